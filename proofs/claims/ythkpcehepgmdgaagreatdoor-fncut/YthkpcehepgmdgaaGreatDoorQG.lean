import Derived.Test.YthkpcehepgmdgaaGreatDoorQD
import Derived.Test.YthkpcehepgmdgaaGreatDoorSU
set_option maxRecDepth 100000
set_option maxHeartbeats 8000000
set_option linter.unusedSimpArgs false
open Go renaming Addr.mk->Q,Value.slice->Z,Value.string->U,Value.agg->ZH,Obj.cells->N,World->G,World.heap->J,World.cell?->ZU,World.frozen?->ZV,World.setCell->ZT
open Option renaming none->Y,some->T
open Bool renaming false->ZB
open Array renaming size->I
open List renaming length->A
namespace Go.Proofs.YthkpcehepgmdgaaGreatDoor.Vp
open Tryz RowKit
variable {x n0 n1 lo:Nat}{f0:Nat->Source}{f1:Nat->Target}{t:ByteArray}{g:List Source}
structure Sml (LS:List Source)(LT:List Target):Prop where
 n0:A LS<=300
 n1:A LT<=300
 u:∀i,i<A LT->(bj LT i).l<=300/\∀j,j<(bj LT i).l->((bj LT i).u j).s.size<=5000
 pos:A LS<=250/\(A LT)<=250/\∀i,i<A LT->1<=(bj LT i).l/\(bj LT i).l<=200
theorem qL:Sml [] []:=⟨by simp,by simp,λi hi=>absurd hi (by simp),by simp,by simp,λi hi=>absurd hi (by simp)⟩
theorem uR{b:List Target}(hl:A g+A b<=201)(h:∀y∈b,valid y.u y.l=true):Sml g b:=by
 refine⟨by omega,by omega,λi hi=>?_,by omega,by omega,λi hi=>by
  rw[wE hi];obtain⟨h1,h2,l⟩:=bO (h _ (gz hi))
  omega⟩
 rw[wE hi];obtain⟨h1,h2,l⟩:=bO (h _ (gz hi));refine⟨by omega,λj m=>?_⟩;have f:=jC h1 m;unfold cF at f;rw[nX] at f;have hm:bR (b[i].u j).op<=2000:=by unfold bR;split<;>omega
 omega
theorem nG (t:ByteArray)(h:bm n0 f0 n1 f1=0):(keepS f0 t n0).length+(keepT f1 t n1).length<=200/\∀y∈keepT f1 t n1,valid y.u y.l=true:=by have H:=SpcOk.of (S:=⟨n0,f0,n1,f1⟩) h;have h0:=iB f0 t n0;have h1:=jG f1 t n1;have hs:n0+n1<=200:=H.bh;refine⟨by omega,λy b=>?_⟩;obtain⟨i,hi,rfl⟩:=LA.1 (List.mem_filter.1 b).1;exact H.u i (KT.1 hi)
theorem uS{b:Type}{g:Nat->ByteArray}{F:Nat->b}{x y:b}(k:Nat)(h:y∈eS g F x t k):y=x∨∃j,j<k/\y=F j:=by
 induction k with
 |zero=>cases h
 |succ k f =>
  have h2:y∈eS g F x t k∨y=x∨y=F k:=by
   unfold eS at h;split at h<;>simp only[n6,j4] at h;{rcases h with (h|h)|h;{exact .inl h};{exact .inr (.inl h)};{exact .inr (.inr h)}};{exact h.imp id .inr}
  rcases h2 with h|h|h;{exact(f h).imp id λ⟨j,hj,e⟩=>⟨j,by omega,e⟩};{exact .inl h};{exact .inr ⟨k,by omega,h⟩}
theorem DW{tx:ByteArray}:Sml (lu n0 f0 n1 f1 t tx) (oC n0 f0 n1 f1 t tx):=by
 by_cases h:oB n0 f0 n1 f1 t tx=0
 ·rw[lu,oC,hU h,hU h];have b:bm n0 f0 n1 f1=0:=QO λa=>by unfold oB at h;rw[hU a] at h;cases h
  obtain⟨h1,h2⟩:=nG t b;obtain⟨h3,f⟩:=rm (keepS f0 t n0) ⟨t,tx⟩ t (keepS f0 t n0).length;refine uR ?_ h2;unfold qq;split;{omega};{rename_i g;rw[gB,f (by simpa using g)];simp only[CV];omega}
 {rw[lu,oC,eT h,eT h];exact qL}
theorem DX{m:Nat}{f:Nat->Ins}:Sml (iU n0 f0 n1 f1 t m f) (lC n0 f0 n1 f1 t m f):=by
 by_cases h:lv n0 f0 n1 f1 t (valid f m)=0
 ·rw[iU,lC,hU h,hU h];unfold lv at h;have l:bm n0 f0 n1 f1=0:=QO λa=>by rw[hU a] at h;cases h
  have n:valid f m=true:=by
   cases e:valid f m with
   |true=>rfl
   |false=>rw[eT (by omega),hU (.inr e)] at h;cases h
  obtain⟨h1,h2⟩:=nG t l;generalize keepT f1 t n1=K at h1 h2;obtain⟨h3,p⟩:=tP (nm1 (bj K)) (λj=>K.getD j dfT) ⟨t,m,f⟩ t (A K);refine uR ?_ λy b=>?_;{unfold tR lw;split;{omega};{rename_i o;rw[gB,p (by simpa using o)];simp only[CV];omega}}
  ·have g:y=⟨t,m,f⟩∨∃j,j<A K/\y=K.getD j dfT:=by
    unfold tR lw at b;split at b;{exact uS _ b};{rcases n6.1 b with b|b;{exact uS _ b};{exact .inl (j4.1 b)}}
   rcases g with rfl|⟨j,i,rfl⟩
   {exact n};{rw[CP,gq i];exact h2 _ (gz i)}
 {rw[iU,lC,eT h,eT h];exact qL}
theorem DY:Sml (iT n0 f0 n1 f1 t) (lm n0 f0 n1 f1 t):=by
 by_cases h:li n0 f0 n1 f1 t=0
 ·rw[iT,lm,hU h,hU h];have b:bm n0 f0 n1 f1=0:=QO λa=>by unfold li at h;rw[hU a] at h;cases h
  exact uR (by have:=(nG t b).1;omega) (nG t b).2
 {rw[iT,lm,eT h,eT h];exact qL}
open Ca
def DCh (w:G)(R q:Nat)(a0:Option Addr)(n0:Nat)(f0:Nat->Source)(a1:Option Addr)(n1:Nat)(f1:Nat->Target)(e:Ending)(b:G):Prop:=∃(d0:Option Addr) (m0 k0:Nat) (g0:Nat->Source) (d1:Option Addr) (m1 k1:Nat) (g1:Nat->Target),e=.returned (ZH #[Z d0 m0 k0,Z d1 m1 k1])/\(HSg (I (J w)) b d0 m0 g0 d1 m1 g1∨(d0=a0/\m0=n0/\g0=f0/\d1=a1/\m1=n1/\g1=f1))/\∃q':Nat,q'<=q/\Rd b R q'/\Only R w b
structure Ch (E:Option Addr->Nat->(Nat->Source)->Option Addr->Nat->(Nat->Target)->Prop)(xs:List Nat)(w:G)(R:Nat)(W:G)(q m0 k0 m1 k1:Nat)(d0:Option Addr)(g0:Nat->Source)(d1:Option Addr)(g1:Nat->Target):Prop where
 rd:Rd W R q
 o:Only R w W
 sx:W.heap[I (J w)]?=T (N #[Z d0 m0 k0,Z d1 m1 k1] 33 (0,0))
 rx:W.heap[I (J w)+1]?=T (N #[Z Y 0 0,Z Y 0 0] 33 (0,0))
 sp:QSp (I (J w)) xs W d0 m0 g0 d1 m1 g1∨E d0 m0 g0 d1 m1 g1
 lo:R<I (J w)
section
variable {E:Option Addr->Nat->(Nat->Source)->Option Addr->Nat->(Nat->Target)->Prop}{xs ys:List Nat}{w W W':G}{R q q' m0 k0 m1 k1:Nat}{d0 d1:Option Addr}{g0:Nat->Source}{g1:Nat->Target}
theorem Ch.ac (h:Ch E xs w R W q m0 k0 m1 k1 d0 g0 d1 g1)(b:Only R W W')(hR:Rd W' R q')(f:R∈xs):Ch E xs w R W' q' m0 k0 m1 k1 d0 g0 d1 g1:=by have hl:=h.lo;exact⟨hR,h.o.trans b,(b.block _ (ag h.sx) (by omega)).trans h.sx,(b.block _ (ag h.rx) (by omega)).trans h.rx,h.sp.imp (λg=>g.fr (Fr.ac b f)) id,h.lo⟩
theorem Ch.aa (h:Ch E xs w R W q m0 k0 m1 k1 d0 g0 d1 g1)(b:Below (I (J W)) W W')(f:R∈xs):Ch E xs w R W' q m0 k0 m1 k1 d0 g0 d1 g1:=h.ac (Only.q b) (h.rd.aa b ly) f
theorem QSp.more (h:QSp lo xs W d0 m0 g0 d1 m1 g1)(i:I (J W)<=x):QSp lo (x::xs) W d0 m0 g0 d1 m1 g1:=by
 obtain⟨b,g,l,h1,h2,j⟩:=h;refine⟨b,g,l,h1,h2,λy f=>?_⟩;rcases BS.1 f with rfl|f;{exact .inr (AD h2.1 i)};{exact j y f}
theorem QSp.less (h:QSp lo (x::xs) W d0 m0 g0 d1 m1 g1):QSp lo xs W d0 m0 g0 d1 m1 g1:=by obtain⟨b,f,i,h1,h2,g⟩:=h;exact⟨b,f,i,h1,h2,λy j=>g y (mq _ j)⟩
theorem Ch.more (h:Ch E xs w R W q m0 k0 m1 k1 d0 g0 d1 g1)(b:I (J W)<=x):Ch E (x::xs) w R W q m0 k0 m1 k1 d0 g0 d1 g1:=⟨h.rd,h.o,h.sx,h.rx,h.sp.imp (λg=>g.more b) id,h.lo⟩
theorem Ch.less (h:Ch E (x::xs) w R W q m0 k0 m1 k1 d0 g0 d1 g1):Ch E xs w R W q m0 k0 m1 k1 d0 g0 d1 g1:=⟨h.rd,h.o,h.sx,h.rx,h.sp.imp (λg=>g.less) id,h.lo⟩
theorem Ch.cells (h:Ch E xs w R W q m0 k0 m1 k1 d0 g0 d1 g1):ZU W (Q (I (J w)) 0 Y)=T (Z d0 m0 k0)/\ZU W (Q (I (J w)) 1 Y)=T (Z d1 m1 k1)/\ZV W (Q (I (J w)) 0 Y)=ZB/\ZV W (Q (I (J w)) 1 Y)=ZB/\(I (J w))<I (J W):=by have hb:=h.sx;refine⟨?_,?_,?_,?_,ag hb⟩<;>simp[World.cell?,World.frozen?,hb]
theorem Ch.two (h:Ch E xs w R W q m0 k0 m1 k1 d0 g0 d1 g1)(f:x∈xs)(b:I (J w)+2<=x)(u v:Value):Ch E xs w R (ZT (ZT W (Q x 0 Y) u) (Q x 1 Y) v) q m0 k0 m1 k1 d0 g0 d1 g1:=by have B:=((cM (I (J w)+2) W).setCell (p:=(Q x 0 Y)) b u).setCell (p:=(Q x 1 Y)) b v;have hlo:=h.lo;exact⟨h.rd.low B (by omega),h.o.then (B.mono (by omega)),(B.block _ (by omega)).trans h.sx,(B.block _ (by omega)).trans h.rx,h.sp.imp (λg=>g.fr ((Fr.set f _).trans (Fr.set f _))) id,h.lo⟩
theorem Ch.put{i l0 j l1:Nat}{f b:Option Addr}{m:Nat->Source}{l:Nat->Target}(h:Ch E xs w R W q m0 k0 m1 k1 d0 g0 d1 g1)(r:I (J w)∈xs)(t:QSp (I (J w)) xs W f i m b j l∨E f i m b j l):Ch E xs w R (ZT (ZT W (Q (I (J w)) 0 Y) (Z f i l0)) (Q (I (J w)) 1 Y) (Z b j l1)) q i l0 j l1 f m b l:=by have B:=((cM (I (J w)) W).setCell (p:=(Q (I (J w)) 0 Y)) ly (Z f i l0)).setCell (p:=(Q (I (J w)) 1 Y)) ly (Z b j l1);have far:∀k,k≠I (J w)->(ZT (ZT W (Q (I (J w)) 0 Y) (Z f i l0)) (Q (I (J w)) 1 Y) (Z b j l1)).heap[k]?=W.heap[k]?:=λk n=>(qh _ _ _ _ n).trans (qh _ _ _ _ n);have s:=h.sx;exact⟨h.rd.low B h.lo,h.o.then B,by simp[World.setCell,KZ,s],(far _ (by omega)).trans h.rx,t.imp (λg=>g.fr ((Fr.set r _).trans (Fr.set r _))) id,h.lo⟩
end
theorem qM{w:G}{b c0 c1:Nat}{a0 a1:Option Addr}{j:List TR}{l:List Target}(o:w.ownsRow b 87 2 (Z a0 (A g) c0) (A g) (g.flatMap bw))(p:TRow w b (Z a1 (A j) c1) j)(m:j.map (·.1)=l)(f:Sml g l):HSg b w a0 (A g) (ct g) a1 (A j) (bj l):=by
 subst m;refine⟨fo o rfl p rfl f.n0 (by simpa using f.n1) (λr n=>?_),f.pos.1,by simpa using f.pos.2.1,λi hi=>f.pos.2.2 i (by simpa using hi)⟩;obtain⟨i,hi,rfl⟩:=T3 n;have e:bj (j.map (·.1)) i=j[i].1:=by simp[bj,hi]
 have h:=f.u i (by simpa using hi);rw[e] at h;exact h
theorem mT (R p b n0 c0 n1 c1:Nat)(a0:Option Addr)(f0:Nat->Source)(a1:Option Addr)(f1:Nat->Target)(w:G)(hR:Rd w R p)(hp:p<=18000)(hb:R<b)(hH:HSg b w a0 n0 f0 a1 n1 f1):Calls Tryz.prog 27 #[.pointer (T (Q R 0 Y)),ZH #[Z a0 n0 c0,Z a1 n1 c1]] w λe w'=>DCh w R (p+2500) a0 n0 f0 a1 n1 f1 e w':=by
 obtain⟨E,hE⟩:∃E:Option Addr->Nat->(Nat->Source)->Option Addr->Nat->(Nat->Target)->Prop,E=λd0 m0 g0 d1 m1 g1=>d0=a0/\m0=n0/\g0=f0/\d1=a1/\m1=n1/\g1=f1:=⟨_,rfl⟩
 have HE:Hid (∀d0 m0 g0 d1 m1 g1,E d0 m0 g0 d1 m1 g1->d0=a0/\m0=n0/\g0=f0/\d1=a1/\m1=n1/\g1=f1):=λ_ _ _ _ _ _ h=>by rw[hE] at h;exact h
 have f:Hid (∀(V:G) (xs:List Nat) (q m0 k0 m1 k1:Nat) (d0:Option Addr) (g0:Nat->Source) (d1:Option Addr) (g1:Nat->Target),Ch E xs w R V q m0 k0 m1 k1 d0 g0 d1 g1->SlSource V d0 m0 g0/\SlTarget V d1 m1 g1/\m0<=300/\m1<=300/\∀i,i<m1->(g1 i).l<=300/\∀j,j<(g1 i).l->((g1 i).u j).s.size<=5000):=λV xs q m0 k0 m1 k1 d0 g0 d1 g1 h=>by
  rcases h.sp with g|g;{have h1:=g.at.1;exact⟨(h1.sl V (Agr.refl _ _)).1,(h1.sl V (Agr.refl _ _)).2,h1.hn0,h1.hn1,h1.aq⟩};{obtain⟨rfl,rfl,rfl,rfl,rfl,rfl⟩:=HE.out _ _ _ _ _ _ g;have h1:=hH.1.sl V (h.o.agr hb);exact⟨h1.1,h1.2,hH.1.hn0,hH.1.hn1,hH.1.aq⟩}
 have sm:=hR.lt;have C0:Hid (Ch E [R,I (J w),I (J w)+1] w R ((w.alloc (N #[Z a0 n0 c0,Z a1 n1 c1] 33)).alloc (N #[Z Y 0 0,Z Y 0 0] 33)) p n0 c0 n1 c1 a0 f0 a1 f1):=by have B:=((q9 w).alloc ly (N #[Z a0 n0 c0,Z a1 n1 c1] 33)).alloc (by simp) (N #[Z Y 0 0,Z Y 0 0] 33);exact⟨hR.aa B ly,Only.q B,(((cM (I (J w)+1) (w.alloc (N #[Z a0 n0 c0,Z a1 n1 c1] 33))).alloc (by simp) _).block (I (J w)) (gM _)).trans (nD w _),PQ w _ _,.inr (by rw[hE];exact⟨rfl,rfl,rfl,rfl,rfl,rfl⟩),sm⟩
 clear hE hR hH;go_enter func27,ntmps27;go_wp2_with fail;generalize World.alloc (World.alloc w _) _=W0 at C0 ⊢;refine(ar R p 3 _ C0.rd (by omega) (by omega) (by omega)).mono ?_;rintro e w1 ⟨z,rfl,ro,ld,fd,n7⟩;have C1:=ae (C0.ac n7 fd (by simp));clear fd n7 C0;have ur:IntKind.i64.wrap (1+z)=1+z:=by rw[nL];omega
 go_wp2_with fail;go_loopw [5] (λv wr=>∃(i:Int) (q m0 k0 m1 k1:Nat) (d0:Option Addr) (g0:Nat->Source) (d1:Option Addr) (g1:Nat->Target),v=.int .i64 i/\0<=i/\i<=3/\(q:Int)+610*i<=(p:Int)+1831/\Hid (Ch E [R,I (J w),I (J w)+1] w R wr q m0 k0 m1 k1 d0 g0 d1 g1)) (λv _=>(intOf v).toNat);case atStart=>exact⟨_,_,_,_,_,_,_,_,_,_,rfl,by omega,by omega,by omega,C1⟩
 case round =>
  clear C1 ur ro ld;obtain⟨i,q,m0,k0,m1,k1,d0,g0,d1,g1,rfl,hi0,hi3,hq,ZL⟩:=hrel;obtain⟨x0,x1,x2,x3,x4⟩:=ZL.cells;by_cases hi:0<i
  ·have hwi:IntKind.i64.wrap (i - 1)=i - 1:=by rw[nL];omega
   have DQ:=ag ZL.rx;have C3:Hid (Ch E [I (J wr),R,I (J w),I (J w)+1] w R (wr.alloc (N #[Z d0 m0 k0,Z d1 m1 k1] 33)) q m0 k0 m1 k1 d0 g0 d1 g1):=(ZL.more ly).aa (br.alloc ly _) (by simp);have N3:Hid ((wr.alloc (N #[Z d0 m0 k0,Z d1 m1 k1] 33)).heap[I (J wr)]?=T (N #[Z d0 m0 k0,Z d1 m1 k1] 33 (0,0))):=nD wr _;go_wp2_with fail;generalize World.alloc wr _=W3 at C3 N3 ⊢;refine(ar R _ 6 _ C3.rd (by omega) (by omega) (by omega)).mono ?_;rintro e w4 ⟨z,rfl,ro,ld,ph,aq⟩;have C4:=ae (C3.ac aq ph (by simp));have N4:=ae ((aq.block _ (ag N3) (by omega)).trans N3);clear ph aq C3 N3;have qr:I (J w)+2<=I (J wr):=by omega
   clear x0 x1 x2 x3 x4 DQ ZL;go_upto_block 2 with fail;generalize (I (J wr))=ZW at C4 N4 qr ⊢;have ZO:Hid (∀(V:G) (q:Nat),Ch E [ZW,R,I (J w),I (J w)+1] w R V q m0 k0 m1 k1 d0 g0 d1 g1->ZU V (Q (I (J w)) 0 Y)=T (Z d0 m0 k0)/\ZU V (Q (I (J w)) 1 Y)=T (Z d1 m1 k1)):=λV q h=>⟨h.cells.1,h.cells.2.1⟩
   obtain⟨-,-,hm0,hm1,ex⟩:=f.out _ _ _ _ _ _ _ _ _ _ _ C4;have ZJ:=f;clear f;have FT:Hid (∀i,i<m1->aU (g1 i)):=λi hi=>by have:=(ex i hi).1;unfold aU;omega
   have FL:Hid (∀i,i<m1->∀j,j<(g1 i).l->((g1 i).u j).s.size<=maxLen):=λi hi j hj=>by have:=(ex i hi).2 j hj;unfold maxLen;omega
   clear ex;go_cut [7] (λs7 wx=>∃(cc:Int) (q' ZQ D ZP ZS:Nat) (H:Option Addr) (i0:Nat->Source) (M:Option Addr) (i1:Nat->Target),s7=.int .i64 cc/\q'<=q+605/\Hid (Ch E [ZW,R,I (J w),I (J w)+1] w R wx q' m0 k0 m1 k1 d0 g0 d1 g1)/\Hid (wx.heap[ZW]?=T (N #[Z H ZQ D,Z M ZP ZS] 33 (0,0)))/\Hid (QSp (I (J w)) [ZW,R,I (J w),I (J w)+1] wx H ZQ i0 M ZP i1));case first =>
    rcases(show z=0∨z=1∨(1<z) by omega) with rfl|rfl|hz2;case' inr.inr =>
     have hz3:(z == 0)=ZB:=by simp;omega
     have hz4:(z == 1)=ZB:=by simp;omega
    all_goals
     go_wp2_with fail;have l:=ae (C4.aa br.drew (by simp));have r:Hid (w4.drew.heap[ZW]?=T (N #[Z d0 m0 k0,Z d1 m1 k1] 33 (0,0))):=N4.out;refine wp_region_held_drew (S:=λV=>ZU V (Q (I (J w)) 0 Y)=T (Z d0 m0 k0)/\ZU V (Q (I (J w)) 1 Y)=T (Z d1 m1 k1)) (by kernel_rfl) (ZO _ _ l) λhS=>?_;have f:=ae hS;clear hS C4 N4;generalize w4.drew=v4 at l r f ⊢
     iterate 2
      refine aW 0 (v:=?_) rfl rfl (by kernel_rfl) (λ_ _ _ h=>h) rfl ?_ f ?_;rotate_left
      ·(rintro ZM ⟨s0,s1⟩;go_simp)
       (try with_reducible rfl)
      (try simp only[Act.put,nzL])
    focus
     refine aW 5 (v:=?_) rfl rfl (by kernel_rfl) (λ_ _ _ h=>h) rfl ?_ f ?_;rotate_left
     ·(rintro ZM ⟨s0,s1⟩;go_simp)
      (try with_reducible rfl)
     (try simp only[Act.put,nzL])
     refine aW 8 (v:=?_) rfl rfl (by kernel_rfl) (λ_ _ _ h=>h) rfl ?_ f ?_;rotate_left
     ·(rintro ZM ⟨s0,s1⟩;go_simp)
      (try with_reducible rfl)
     (try simp only[Act.put,nzL])
     refine aS (i:=2) rfl (by kernel_rfl) λK m=>?_;go_simp;go_at_call 13;refine(ar R _ 6 _ l.rd (by omega) (by omega) (by omega)).mono ?_;rintro e v5 ⟨y,rfl,ZK,n8,hR,n⟩;obtain⟨k,rfl⟩:=p9 ZK;replace r:=ae ((n.block _ (ag r) (by omega)).trans r);replace l:=ae (l.ac n hR (by simp));clear hR n f;have f:=ae (ZO _ _ l);refine m _ _ f ?_;clear m K
     (try simp only[Act.put,nzL])
     refine aW 3 (v:=U ((⟨#[97,98,99,100,101,102]⟩:ByteArray).extract k 6)) rfl rfl (by kernel_rfl) (λ_ _ _ h=>h) rfl ?_ f ?_
     ·intro ZM u
      go_simp;intro h;omega
     (try simp only[Act.put,nzL])
     obtain⟨s,hs⟩:∃s:ByteArray,s=(⟨#[97,98,99,100,101,102]⟩:ByteArray).extract k 6:=⟨_,rfl⟩
     have At:1<=s.size:=by rw[hs,ByteArray.size_extract];have e:(⟨#[97,98,99,100,101,102]⟩:ByteArray).size=6:=rfl;rw[e];omega
     rw[<-hs];clear hs ZK n8;refine aW 4 (v:=U (s.extract 0 1)) rfl rfl (by kernel_rfl) (λ_ _ _ h=>h) rfl ?_ f ?_
     ·intro ZM u
      go_simp;intro h;omega
     (try simp only[Act.put,nzL])
     generalize s.extract 0 1=kn;clear At;refine aS (i:=6) rfl (by kernel_rfl) λK m=>?_;go_simp;go_at_call 62;refine(gL R _ _ l.rd (by omega)).mono ?_;rintro e v7 ⟨t,rfl,C,q7,hq7,hR,n⟩;replace r:=ae ((n.block _ (ag r) (by omega)).trans r);replace l:=ae (l.ac n hR (by simp));clear hR n f;have f:=ae (ZO _ _ l);refine m _ _ f ?_;clear m K
     (try simp only[Act.put,nzL])
     refine aW 7 (v:=U (t++⟨#[32]⟩)) rfl rfl (by kernel_rfl) (λ_ _ _ h=>h) rfl ?_ f ?_
     ·intro ZM u
      go_simp;omega
     (try simp only[Act.put,nzL])
     obtain⟨tt,bt⟩:∃tt:ByteArray,tt=t++⟨#[32]⟩:=⟨_,rfl⟩
     have DE:tt.size<=9:=by have e:(⟨#[32]⟩:ByteArray).size=1:=rfl;rw[bt,L9,e];omega
     rw[<-bt];clear bt C;refine aS (i:=9) rfl (by kernel_rfl) λK m=>?_;go_simp;go_at_call 43;refine(dL R _ _ l.rd (by omega)).mono ?_;rintro e v8 ⟨t2,rfl,th,hR,n⟩;replace r:=ae ((n.block _ (ag r) (by omega)).trans r);replace l:=ae (l.ac n hR (by simp));clear hR n f;have f:=ae (ZO _ _ l);refine m _ _ f ?_;clear m K
     (try simp only[Act.put,nzL])
     refine aW 10 (v:=U (tt++t2)) rfl rfl (by kernel_rfl) (λ_ _ _ h=>h) rfl ?_ f ?_
     ·intro ZM u
      go_simp;omega
     (try simp only[Act.put,nzL])
     generalize tt++t2=tx;clear DE th;refine aS (i:=11) rfl (by kernel_rfl) λK m=>?_;go_simp;go_at_call 61;refine(tU d0 m0 k0 g0 d1 m1 k1 g1 kn tx _ (by omega) (by omega) (ZJ _ _ _ _ _ _ _ _ _ _ _ l).1 (ZJ _ _ _ _ _ _ _ _ _ _ _ l).2.1 FT FL).mono ?_;rintro e X ⟨v0,v1,RT,rfl,O,C,W,P⟩;obtain⟨H,D,rfl⟩:=aF O;obtain⟨M,ZS,rfl⟩:=aF C.y;have SM:=qM O C W DW;generalize (lu m0 g0 m1 g1 kn tx).length=ZQ at SM ⊢;generalize (A RT)=ZP at SM ⊢;generalize ct (lu m0 g0 m1 g1 kn tx)=i0 at SM;generalize bj (oC m0 g0 m1 g1 kn tx)=i1 at SM;clear O C W
    rotate_left;focus
     refine aS (i:=2) rfl (by kernel_rfl) λK m=>?_;go_simp;go_at_call 43;refine(dL R _ _ l.rd (by omega)).mono ?_;rintro e v5 ⟨t,rfl,C,hR,n⟩;clear C;replace r:=ae ((n.block _ (ag r) (by omega)).trans r);replace l:=ae (l.ac n hR (by simp));clear hR n f;have f:=ae (ZO _ _ l);refine m _ _ f ?_;clear m K
     (try simp only[Act.put,nzL])
     refine aS (i:=3) rfl (by kernel_rfl) λK m=>?_;go_simp;go_at_call 57;refine(tV d0 m0 k0 g0 d1 m1 k1 g1 t _ (by omega) (by omega) (ZJ _ _ _ _ _ _ _ _ _ _ _ l).1 (ZJ _ _ _ _ _ _ _ _ _ _ _ l).2.1 FT FL).mono ?_;rintro e X ⟨v0,v1,RT,rfl,O,C,W,P⟩;obtain⟨H,D,rfl⟩:=aF O;obtain⟨M,ZS,rfl⟩:=aF C.y;have SM:=qM O C W DY;generalize (iT m0 g0 m1 g1 t).length=ZQ at SM ⊢;generalize (A RT)=ZP at SM ⊢;generalize ct (iT m0 g0 m1 g1 t)=i0 at SM;generalize bj (lm m0 g0 m1 g1 t)=i1 at SM;clear O C W
    rotate_left;focus
     refine aW 5 (v:=?_) rfl rfl (by kernel_rfl) (λ_ _ _ h=>h) rfl ?_ f ?_;rotate_left
     ·(rintro ZM ⟨s0,s1⟩;go_simp)
      (try with_reducible rfl)
     (try simp only[Act.put,nzL])
     refine aS (i:=2) rfl (by kernel_rfl) λK m=>?_;go_simp;go_at_call 13;refine(ar R _ 8 _ l.rd (by omega) (by omega) (by omega)).mono ?_;rintro e v5 ⟨y,rfl,ZK,n8,hR,n⟩;obtain⟨k,rfl⟩:=p9 ZK;replace r:=ae ((n.block _ (ag r) (by omega)).trans r);replace l:=ae (l.ac n hR (by simp));clear hR n f;have f:=ae (ZO _ _ l);refine m _ _ f ?_;clear m K
     (try simp only[Act.put,nzL])
     refine aS (i:=3) rfl (by kernel_rfl) λK m=>?_;go_simp;go_at_call 59;refine(ig k (by omega) _).mono ?_;rintro e v7 ⟨rfl,P⟩;have hR:=l.rd.aa P ly;have n:=Only.q (b:=R) P;clear P;replace r:=ae ((n.block _ (ag r) (by omega)).trans r);replace l:=ae (l.ac n hR (by simp));clear hR n f;have f:=ae (ZO _ _ l);refine m _ _ f ?_;clear m K
     (try simp only[Act.put,nzL])
     refine aW 4 (v:=?_) rfl rfl (by kernel_rfl) (λ_ _ _ h=>h) rfl ?_ f ?_;rotate_left
     ·(rintro ZM ⟨s0,s1⟩;go_simp)
      (try with_reducible rfl)
     (try simp only[Act.put,nzL])
     refine aS (i:=6) rfl (by kernel_rfl) λK m=>?_;go_simp;go_at_call 60;have hs7:=l.o.size;refine(iR R _ _ l.rd (by omega)).mono ?_;rintro e v8 ⟨L,g,c,rfl,hI,hL1,hL2,n9,q8,hq8,hR,n⟩;have SI:=ae (show SlIns v8 (T (Q g 0 Y)) (A L) (de L) from .inr ⟨g,0,rfl,hI.lt.2,hI.at⟩);have FI:Hid (∀i,i<A L->(de L i).s.size<=maxLen):=λi hi=>by have:=jy n9 i hi;unfold maxLen;omega
     clear hI n9;replace r:=ae ((n.block _ (ag r) (by omega)).trans r);replace l:=ae (l.ac n hR (by simp));clear hR n f;have f:=ae (ZO _ _ l);refine m _ _ f ?_;clear m K
     (try simp only[Act.put,nzL])
     refine aS (i:=7) rfl (by kernel_rfl) λK m=>?_;go_simp;go_at_call 58;refine(t6 d0 m0 k0 g0 d1 m1 k1 g1 _ (T (Q g 0 Y)) (A L) c (de L) _ (by omega) (by omega) (by omega) (ZJ _ _ _ _ _ _ _ _ _ _ _ l).1 (ZJ _ _ _ _ _ _ _ _ _ _ _ l).2.1 SI FT FL FI).mono ?_;rintro e X ⟨v0,v1,RT,rfl,O,C,W,P⟩;clear SI FI;obtain⟨H,D,rfl⟩:=aF O;obtain⟨M,ZS,rfl⟩:=aF C.y;have SM:=qM O C W DX;generalize (⟨#[116]⟩:ByteArray)++⟨#[dig k]⟩=t at SM ⊢;generalize (iU m0 g0 m1 g1 t (A L) (de L)).length=ZQ at SM ⊢;generalize (A RT)=ZP at SM ⊢;generalize ct (iU m0 g0 m1 g1 t (A L) (de L))=i0 at SM;generalize bj (lC m0 g0 m1 g1 t (A L) (de L))=i1 at SM;clear O C W
    all_goals
     have hz6:=P.size;have hw5:=l.o.size;have Bk:=ag r.out;have C6:=ae (l.aa P (by simp));have N6:=ae ((P.block ZW Bk).trans r)
     have Q6:=ae (QSp.new (lo:=I (J w)) (xs:=[ZW,R,I (J w),I (J w)+1]) SM (by omega) (λx hx=>by
      simp only[BS,nj,NE] at hx
      omega))
     clear P l r f SM;have f:=ae (ZO _ _ C6);refine m _ _ f ?_;clear m K
     (try simp only[Act.put,nzL])
     iterate 3
      refine aW 4 (v:=?_) rfl rfl (by kernel_rfl) (λ_ _ _ h=>h) rfl ?_ f ?_;rotate_left
      ·(rintro ZM ⟨s0,s1⟩;go_simp)
       (try with_reducible rfl)
      (try simp only[Act.put,nzL])
     have ZN:=N6.out;have y0:ZV X (Q ZW 0 Y)=ZB:=by simp[World.frozen?,ZN]
     have y1:ZV X (Q ZW 1 Y)=ZB:=by simp[World.frozen?,ZN]
     have y2:=ag ZN;have y3:ZU X (Q ZW 0 Y)=T (Z d0 m0 k0):=by simp[World.cell?,ZN]
     have y4:ZU X (Q ZW 1 Y)=T (Z d1 m1 k1):=by simp[World.cell?,ZN]
     clear ZN;have C7:=ae (C6.two (x:=ZW) (by simp) qr (Z H ZQ D) (Z M ZP ZS));have N7:Hid ((ZT (ZT X (Q ZW 0 Y) (Z H ZQ D)) (Q ZW 1 Y) (Z M ZP ZS)).heap[ZW]?=T (N #[Z H ZQ D,Z M ZP ZS] 33 (0,0))):=by have h1:=bD (j:=1) (bD (j:=0) N6 (Z H ZQ D)) (Z M ZP ZS);exact h1
     have Q7:=ae (Q6.fr ((Fr.set (x:=ZW) (j:=0) (by simp) (Z H ZQ D)).trans (Fr.set (x:=ZW) (j:=1) (by simp) (Z M ZP ZS))));refine gn 4 rfl rfl (by kernel_rfl) λK m=>?_;go_simp;clear f;have f:=ae (ZO _ _ C7);refine m _ _ f ?_;clear m K
     (try simp only[Act.put,nzL])
     refine gn 4 rfl rfl (by kernel_rfl) λK m=>?_;go_simp;refine m _ _ f ?_;clear m K
     (try simp only[Act.put,nzL])
     refine wpAnyH_done (by kernel_rfl) ?_ _;go_wp2;go_meet;exact⟨_,_,_,_,_,_,_,_,_,_,rfl,by omega,C7,N7,Q7⟩
   case rest =>
   clear C4 N4 ZO FT FL;obtain⟨cc,q',ZQ,D,ZP,ZS,H,i0,M,i1,rfl,hq',C8,N8,Q8⟩:=hcut;generalize wc=W8 at C8 N8 Q8 ⊢;obtain⟨x0,x1,x2,x3,x4⟩:=C8.cells;have ZN:=N8.out;have y3:ZU W8 (Q ZW 0 Y)=T (Z H ZQ D):=by simp[World.cell?,ZN]
   have y4:ZU W8 (Q ZW 1 Y)=T (Z M ZP ZS):=by simp[World.cell?,ZN]
   clear ZN;by_cases la:cc=0;{subst la;have C9:=ae ((C8.put (l0:=D) (l1:=ZS) (by simp) (.inl Q8)).less);go_wp2;exact⟨⟨_,_,_,_,_,_,_,_,_,_,rfl,by omega,by omega,by omega,C9⟩,by simp only[intOf];omega⟩}
   ·have hcb:(cc == 0)=ZB:=by simpa using la
    go_wp2;exact⟨⟨_,_,_,_,_,_,_,_,_,_,rfl,by omega,by omega,by omega,C8.less⟩,by simp only[intOf];omega⟩
  ·have hi2:¬ 0<i:=hi;have kr:=ZL.rx;have r0:ZU wr (Q (I (J w)+1) 0 Y)=T (Z Y 0 0):=by simp[World.cell?,kr]
   have r1:ZU wr (Q (I (J w)+1) 1 Y)=T (Z Y 0 0):=by simp[World.cell?,kr]
   have r2:ZV wr (Q (I (J w)+1) 0 Y)=ZB:=by simp[World.frozen?,kr]
   have r3:ZV wr (Q (I (J w)+1) 1 Y)=ZB:=by simp[World.frozen?,kr]
   have D:=ag kr;clear kr;have BE:=ae (((cM (I (J w)+1) wr).setCell (p:=(Q (I (J w)+1) 0 Y)) ly (Z d0 m0 k0)).setCell (p:=(Q (I (J w)+1) 1 Y)) ly (Z d1 m1 k1));have DS:Hid (HSg (I (J w)) (ZT (ZT wr (Q (I (J w)+1) 0 Y) (Z d0 m0 k0)) (Q (I (J w)+1) 1 Y) (Z d1 m1 k1)) d0 m0 g0 d1 m1 g1∨(d0=a0/\m0=n0/\g0=f0/\d1=a1/\m1=n1/\g1=f1)):=ZL.sp.imp (λg=>(g.fr ((Fr.set (x:=I (J w)+1) (j:=0) (by simp) (Z d0 m0 k0)).trans (Fr.set (x:=I (J w)+1) (j:=1) (by simp) (Z d1 m1 k1)))).at) (HE _ _ _ _ _ _);have RE:=ae (ZL.rd.low BE (by omega));have OE:=ae (ZL.o.then (BE.mono (IS _)));go_wp2;exact bp (v:=ZH #[Z d0 m0 k0,Z d1 m1 k1]) (by simp[results,results27,go_sem,r0,r1]) rfl ⟨_,_,_,_,_,_,_,_,rfl,DS,_,by omega,RE,OE⟩
