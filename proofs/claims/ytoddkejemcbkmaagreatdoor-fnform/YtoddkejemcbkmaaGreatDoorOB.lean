import Derived.Test.YtoddkejemcbkmaaGreatDoorPE
import Derived.Test.YtoddkejemcbkmaaGreatDoorRP
import Derived.Test.YtoddkejemcbkmaaGreatDoorRG
import Derived.Test.YtoddkejemcbkmaaGreatDoorQC
import Derived.Deep.CutBlock
set_option maxRecDepth 100000
set_option maxHeartbeats 8000000
open Go renaming Addr.mk->Q,Value.slice->Z,Value.string->U,Value.int->J,Value.bool->ZD,Obj.cells->N,IntKind.i64->I,World->M,Value->ZC,World.cell?->A
open Option renaming none->Y,some->T
open Bool renaming false->ZA,true->ZG
namespace Go.Proofs.YtoddkejemcbkmaaGreatDoor.Vp
open Tryz RowKit Ca
variable {z:Nat × Nat}{R:List DR}
def FK (r:DR):Prop:=∃nm tx,r=ju nm tx 1/\nm.size<=5000/\tx.size<=1970
structure L6S (w:M)(X ZJ:Nat)(W:M)(ga:Nat)(a:Option Addr)(c:Nat)(D:List DR)(al:Option Addr)(cl:Nat)(L:List Link):Prop where
 rs:W.heap[w.heap.size]?=T (N #[Z Y 0 0] 25 (0,0))
 bx:W.heap[X]?=T (N #[Z a D.length c] 25 (0,0))
 rt:W.heap[ZJ]?=T (N #[U ⟨#[114]⟩,J I 3,J I 0,U ⟨#[]⟩,Z (T (Q ga 0 Y)) 1 1,Z al L.length cl] 62 (0,0))
 i:W.ownsRow (ZJ+1) 62 6 (Z a D.length c) D.length (D.flatMap ddV)
 G:W.ownsRow (w.heap.size+1) 90 3 (Z (T (Q ga 0 Y)) 1 1) 1 [J I 15,U ⟨#[]⟩,J I 0]
 V:W.ownsRow (ZJ+1) 93 4 (Z al L.length cl) L.length (L.flatMap cP)
 bare:∀r∈D,FK r
 lf:∀l∈L,l.e.size<=5000
 lo:w.heap.size<X/\X<ZJ
 bl:Below w.heap.size w W
section
variable {w W W':M}{X ZJ ga c c' cl:Nat}{a a' al:Option Addr}{D:List DR}{L:List Link}{r:DR}{l:Link}
theorem L6S.aa (h:L6S w X ZJ W ga a c D al cl L)(hb:Below W.heap.size W W'):L6S w X ZJ W' ga a c D al cl L :=
 ⟨(hb.block _ (ah h.rs)).trans h.rs,(hb.block _ (ah h.bx)).trans h.bx,(hb.block _ (ah h.rt)).trans h.rt,own_below h.i hb ly,own_below h.G hb ly,own_below h.V hb ly,h.bare,h.lf,h.lo,h.bl.trans (hb.mono h.bl.size)⟩
theorem iF{W:M}{k:Nat}{e b:TypeId}{f:Array ZC}(h:OfTy W k e)(c:W.heap[k]?=T (N f b z)):e=b:=by obtain⟨c1,z1,h1⟩:=h;rw[c] at h1;simp at h1;exact h1.2.1.symm
theorem rh{w W c V:M}{X j b sz n m c' s:Nat}{i tb:TypeId}{v:ZC}{ZR x:List ZC}{h:Array ZC}(f:Below w.heap.size w W)(g:Below W.heap.size W c)(t:c.ownsRow b i sz v n ZR)(o:c.grownBy V v.ownBlock)(q:V.ownsRow b i sz (Z (T (Q s 0 Y)) m c') m x)(hb:w.heap.size<=b)(hX:W.heap[X]?=T (N h tb z))(l:i≠tb)(r:w.heap.size<=X):V.heap[X]?=T (N h tb z)/\∀u,(∀k,k<W.heap.size->T k≠v.ownBlock->k≠X->(V.setCell (Q X j Y) u).heap[k]?=W.heap[k]?)/\(V.setCell (Q X j Y) u).ownsRow b i sz (Z (T (Q s 0 Y)) m c') m x/\Below w.heap.size w (V.setCell (Q X j Y) u):=by
 have hz:=g.size;have E:=ah hX;have h1:c.heap[X]?=T (N h tb z):=(g.block X E).trans hX;have h2:V.heap[X]?=T (N h tb z):=(o.block X (by omega) (λe=>l (iF (bq t X e.symm) h1))).trans h1;refine⟨h2,λu=>⟨λk y C B=>(qh V (Q X j Y) u k B).trans ((o.block k (by omega) C).trans (g.block k y)),bE q λk y D=>qh V (Q X j Y) u k (λe=>?_),?_⟩⟩;{have e:k=X:=e;subst e;exact l (iF D h2)};{exact((f.trans (g.mono f.size)).trans (bg (eL w.heap.size c) o (p9 f.size hz) (λk e=>p9 hb (t.lt k e).1))).setCell (p:=(Q X j Y)) r u}
theorem L6S.far (h:L6S w X ZJ W ga a c D al cl L)(keep:∀k,k<W.heap.size->T k≠(Value.slice a D.length c).ownBlock->k≠X->W'.heap[k]?=W.heap[k]?):(∀k,k<=ZJ->k≠X->W'.heap[k]?=W.heap[k]?)/\∀k e,OfTy W k e->e≠62->e≠25->W'.heap[k]?=W.heap[k]?:=by refine⟨λk b hX=>keep k (Nat.lt_of_le_of_lt b (ah h.rt)) (λe=>by have:=(h.i.lt k e.symm).1;have:=h.lo;omega) hX,λk e b h1 h2=>?_⟩;obtain⟨c1,z1,f⟩:=b;refine keep k (ah f) (λg=>h1 (iF (bq h.i k g.symm) f).symm) (λg=>?_);subst g;exact h2 (iF ⟨_,_,h.bx⟩ f).symm
theorem L6S.add (h:L6S w X ZJ W ga a c D al cl L)(keep:∀k,k<W.heap.size->T k≠(Value.slice a D.length c).ownBlock->k≠X->W'.heap[k]?=W.heap[k]?)(j:W'.heap[X]?=T (N #[Z a' (D.length+1) c'] 25 (0,0)))
  (i:W'.ownsRow (ZJ+1) 62 6 (Z a' (D.length+1) c') (D.length+1) (D.flatMap ddV++ddV r)) (n:FK r) (hb:Below w.heap.size w W'):L6S w X ZJ W' ga a' c' (D++[r]) al cl L:=by
 have hlo:=h.lo;obtain⟨low,f⟩:=h.far keep;have l:(D++[r]).length=D.length+1:=by simp
 refine⟨(low _ (by omega) (by omega)).trans h.rs,by rw[l];exact j,(low ZJ ly (by omega)).trans h.rt,?_,bE h.G λk m g=>f k _ g (by decide) (by decide),bE h.V λk m g=>f k _ g (by decide) (by decide),λx b=>?_,h.lf,h.lo,hb⟩;{rw[l,BM];simpa using i};{rcases p8.1 b with b|b;{exact h.bare x b};{rw[nL.1 b];exact n}}
theorem L6S.lk (h:L6S w X ZJ W ga a c D al cl L)(keep:∀k,k<W.heap.size->T k≠(Value.slice al L.length cl).ownBlock->k≠ZJ->W'.heap[k]?=W.heap[k]?)
  (m:W'.heap[ZJ]?=T (N #[U ⟨#[114]⟩,J I 3,J I 0,U ⟨#[]⟩,Z (T (Q ga 0 Y)) 1 1,Z a' (L.length+1) c'] 62 (0,0)))
  (j:W'.ownsRow (ZJ+1) 93 4 (Z a' (L.length+1) c') (L.length+1) (L.flatMap cP++cP l)) (r:l.e.size<=5000) (hb:Below w.heap.size w W'):L6S w X ZJ W' ga a c D a' c' (L++[l]):=by
 have p:=h.lo;have low:∀k,k<ZJ->W'.heap[k]?=W.heap[k]?:=λk b=>keep k (Nat.lt_trans b (ah h.rt)) (λe=>by have:=(h.V.lt k e.symm).1;omega) (by omega);have i:∀k e,OfTy W k e->e≠93->k≠ZJ->W'.heap[k]?=W.heap[k]?:=λk e b h1 h2=>by obtain⟨c1,z1,o⟩:=b;exact keep k (ah o) (λq=>h1 (iF (bq h.V k q.symm) o).symm) h2
 have n:(L++[l]).length=L.length+1:=by simp
 refine⟨(low _ (by omega)).trans h.rs,(low X p.2).trans h.bx,by rw[n];exact m,bE h.i λk b g=>i k _ g (by decide) (by have:=(h.i.lt k b).1;omega),bE h.G λk b g=>i k _ g (by decide) (λe=>by subst e;exact absurd (iF g h.rt) (by decide)),?_,h.bare,λx f=>?_,h.lo,hb⟩;{rw[n,BM];simpa using j};{rcases p8.1 f with f|f;{exact h.lf x f};{rw[nL.1 f];exact r}}
end
def nM (L:List Link):Deed:=⟨⟨#[114]⟩,3,0,⟨#[]⟩,1,λ_=>⟨15,⟨#[]⟩,0⟩,L.length,λj=>L.getD j jI⟩
theorem Cn (L:List Link):bo (λj=>L.getD j jI) L.length=L.flatMap cP:=by unfold bo;congr 1;refine List.ext_getElem (by simp) λi h1 h2=>?_;simp[gq h2]
theorem Ft{L:List Link}(h:∀l∈L,l.e.size<=5000)(hl:L.length<=150):FitD (nM L) :=
 ⟨by show(⟨#[114]⟩:ByteArray).size<=5000;decide,by show(⟨#[]⟩:ByteArray).size<=5000;decide,by show 1<=300;omega,λj _=>by show(⟨#[]⟩:ByteArray).size<=5000;decide,by show L.length<=300;omega,λj c=>by
  have b:j<L.length:=c;show(L.getD j jI).e.size<=5000;rw[IX,gq b]
  exact h _ (gz b)⟩
structure L6T (w:M)(X:Nat)(W:M)(a:Option Addr)(c:Nat)(R:List DR):Prop where
 rs:W.heap[w.heap.size]?=T (N #[Z Y 0 0] 25 (0,0))
 bx:W.heap[X]?=T (N #[Z a R.length c] 25 (0,0))
 row:DRw W (w.heap.size+1) (Z a R.length c) R
 ak:∀r∈R,FitD r.1
 lo:w.heap.size<X
 len:R.length=151
 bl:Below w.heap.size w W
theorem L6T.aa{w W W':M}{X c:Nat}{a:Option Addr}(h:L6T w X W a c R)(hb:Below W.heap.size W W'):L6T w X W' a c R :=
 ⟨(hb.block _ (ah h.rs)).trans h.rs,(hb.block _ (ah h.bx)).trans h.bx,h.row.aa hb ly,h.ak,h.lo,h.len,h.bl.trans (hb.mono h.bl.size)⟩
theorem L6T.txt{w W:M}{X c g k:Nat}{r:DR}{tx:ByteArray}(h:L6T w X W (T (Q g 0 Y)) c R)(j:R[k]?=T r)(m:tx.size<=5000):L6T w X (W.setCell (Q g (k*6+3) Y) (U tx)) (T (Q g 0 Y)) c (R.set k ({ r.1 with h:=tx },r.2)):=by
 have l:=L8 j;have hg:=h.row.i.lt g rfl;have f:(R.set k ({ r.1 with h:=tx },r.2)).length=R.length:=LN;have i:g≠X:=λe=>by subst e;exact absurd (iF (bq h.row.i g rfl) h.bx) (by decide)
 refine⟨(qh W (Q g _ Y) _ _ (by show w.heap.size≠g;omega)).trans h.rs,?_,?_,λx n=>?_,h.lo,f.trans h.len,h.bl.setCell (p:=(Q g _ Y)) (by show w.heap.size<=g;omega) _⟩;{rw[f];exact(qh W (Q g _ Y) _ _ (UT i)).trans h.bx};{rw[f];exact h.row.fld rfl j (by omega) rfl ((h.row.sub r l).same _ rfl rfl rfl rfl)};{refine lu (P:=FitD) h.ak ?_ x n;have b:=h.ak r l;exact⟨b.nm,m,b.an,b.asz,b.ln,b.lsz⟩}
theorem L6S.fin{w W W':M}{X ZJ ga c c' cl:Nat}{a a' al:Option Addr}{D:List DR}{L:List Link}(h:L6S w X ZJ W ga a c D al cl L)(keep:∀k,k<W.heap.size->T k≠(Value.slice a D.length c).ownBlock->k≠X->W'.heap[k]?=W.heap[k]?)(m:W'.heap[X]?=T (N #[Z a' (D.length+1) c'] 25 (0,0)))
  (i:W'.ownsRow (ZJ+1) 62 6 (Z a' (D.length+1) c') (D.length+1) (D.flatMap ddV++[U ⟨#[114]⟩,J I 3,J I 0,U ⟨#[]⟩,Z (T (Q ga 0 Y)) 1 1,Z al L.length cl])) (o:D.length=150) (hL:L.length=150) (hb:Below w.heap.size w W'):L6T w X W' a' c' (D++[(nM L,Z (T (Q ga 0 Y)) 1 1,Z al L.length cl)]):=by
 have n:=h.lo;obtain⟨low,f⟩:=h.far keep;have g:(D++[(nM L,Value.slice (T (Q ga 0 Y)) 1 1,Value.slice al L.length cl)]).length=D.length+1:=by simp
 refine⟨(low _ (by omega) (by omega)).trans h.rs,by rw[g];exact m,⟨?_,λx b=>?_⟩,λx b=>?_,n.1,by rw[g,o],hb⟩;{rw[g,BM];have h1:=aC i (show w.heap.size+1<=ZJ+1 by omega);simpa[ddV,nM] using h1};{rcases p8.1 b with b|b;{obtain⟨nm,tx,rfl,-,-⟩:=h.bare x b;exact uQ _ _ _ _ _};{rw[nL.1 b];refine⟨bE h.G λk p l=>f k _ l (by decide) (by decide),?_⟩;have h2:=aC (bE h.V λk p l=>f k _ l (by decide) (by decide)) (show w.heap.size+1<=ZJ+1 by omega);show W'.ownsRow _ _ _ _ L.length (bo (λj=>L.getD j jI) L.length);rw[Cn];exact h2}};{rcases p8.1 b with b|b;{obtain⟨nm,tx,rfl,h1,h2⟩:=h.bare x b;exact(pc (K:=0) 1 h1 (by omega)).d (by omega)};{rw[nL.1 b];exact Ft h.lf (by omega)}}
def DFa (w:M)(e:Ending)(b:M):Prop:=∃(a:Option Addr) (n c:Nat) (f:Nat->Deed),e=.returned (.agg #[Z a n c])/\HAc w.heap.size b a n c f/\Below w.heap.size w b
theorem nh (f:Nat->Deed)(n:Nat):((⟨(cL f n).toArray⟩:ByteArray).size:Int)<=300000:=by have h:=lM (rfl:cL f n=cL f n);show(((cL f n).toArray).size:Int)<=300000;rw[CX];omega
theorem zF (G:Int)(hm0:-1<=G)(fd:G<=1)(w:M):Calls Tryz.prog 21 #[J I G] w λe w'=>DFa w e w':=by
 obtain⟨DS,hi,GS,Fm,DH⟩:=LY eu;obtain⟨JF,hj,JB,Ju,Js⟩:=LY fZ;obtain⟨W0,mv⟩:∃W:M,(w.alloc (N #[Z Y 0 0] 25)).alloc (N #[Z Y 0 0] 25)=W:=⟨_,rfl⟩
 obtain⟨A0,K0,K1,Jp⟩:=nb2 mv;have DQ:=ae mv;clear mv;go_enter func21,ntmps21;go_wp2_with fail;rw[DQ.out];clear DQ;refine(aV 15 W0).mono ?_;rintro e S ⟨rfl,dg⟩;have JI:=dg.size;obtain⟨W1,sm⟩:∃W:M,(S.alloc (N #[J I 15,U ⟨#[]⟩,J I 0] 90)).alloc (N #[U ⟨#[114]⟩,J I 3,J I 0,U ⟨#[]⟩,Z (T (Q S.heap.size 0 Y)) 1 1,Z Y 0 0] 62)=W:=⟨_,rfl⟩
 obtain⟨A1,K2,K3,JC⟩:=nb2 sm;have Bk:=ae sm;have bt:=dg.trans (A1.out.mono dg.size);have S1:Hid (L6S w (w.heap.size+1) (S.heap.size+1) W1 S.heap.size Y 0 [] Y 0 []):=⟨(bt.block _ (by omega)).trans K0,(bt.block _ (by omega)).trans K1,K3,AT _ _ _ _,⟨rfl,.inr ⟨S.heap.size,1,_,rfl,by omega,K2,n8 _,by unfold maxLen;omega,rfl,rfl⟩⟩,AT _ _ _ _,λr x=>(by cases x),λr x=>(by cases x),⟨by omega,by omega⟩,A0.out.trans (bt.mono (by omega))⟩
 clear sm A0 K0 K1 K2 K3 A1 dg bt Jp JC JI;go_upto_region 3 with fail;rw[Bk.out];clear Bk;generalize w.heap.size+1=X at S1 ⊢;generalize S.heap.size+1=ZJ at S1 ⊢;generalize S.heap.size=ga at S1 ⊢;go_wp2_with fail;go_loopw [5] (λi wr=>∃(k:Nat) (a:Option Addr) (c:Nat) (D:List DR) (al:Option Addr) (cl:Nat) (L:List Link),i=J I (k:Int)/\k<=150/\Hid (D.length=k/\L.length=k)/\Hid (L6S w X ZJ wr ga a c D al cl L)) (λi _=>(150 - intOf i).toNat);case atStart=>exact⟨0,_,_,_,_,_,_,rfl,by omega,⟨rfl,rfl⟩,S1⟩
 case round =>
  clear S1;obtain⟨k,a,c,D,al,cl,L,rfl,hk,H,C⟩:=hrel;have ph:=NK C.lo.1;have Jr:=p9 ph (NK C.lo.2);have th:w.heap.size<=ZJ+1:=by omega
  by_cases hk9:(k:Int)<150
  ·obtain⟨Jy,q1,q2,q3,q4,q5,q6,r1,r2,r3,s1,s2,s3⟩:=Hr k (by omega);have A3:=ae ((q9 wr).alloc ly (N #[J .u8 (48+(k:Int) / 100),J .u8 (48+(k:Int) / 10 % 10),J .u8 (48+(k:Int) % 10)] 5));have ld:(⟨#[115]⟩++⟨#[dig (k / 100),dig (k / 10 % 10),dig (k % 10)]⟩:ByteArray).size<=5000:=by simp only[MQ];show 1+3<=5000;omega
   go_upto_region 7 with fail;clear Jy q1 q2 q3 q4 q5 q6 r1 r2 r3 s1 s2 s3;generalize (⟨#[115]⟩++⟨#[dig (k / 100),dig (k / 10 % 10),dig (k % 10)]⟩:ByteArray)=nm at ld ⊢;have S3:=ae (C.aa A3);clear C;generalize World.alloc wr _=W3 at A3 S3 ⊢;clear A3;have JD:D.length<150:=by have:=H.out.1;omega
   have JA:L.length<150:=by have:=H.out.2;omega
   go_wp2_with fail;refine aE (λV=>A V (Q X 0 Y)=T (Z a D.length c)) 8 (by kernel_rfl) ?_;have ZO:=ae (S3.aa br.drew);clear S3;generalize W3.drew=v at ZO ⊢;have y:Hid (A v (Q X 0 Y)=T (Z a D.length c)):=by show _=_;simp[World.cell?,ZO.bx]
   iterate 3
    refine aI 0 (v:=?_) rfl rfl (by kernel_rfl) (λ_ _ _ h=>h) rfl ?_ y ?_;rotate_left
    ·(intro wz s0;go_simp)
     (try with_reducible rfl)
    (try simp only[Act.put,nzL])
   refine ag (i:=3) rfl (by kernel_rfl) λK b=>?_;go_simp;go_at_call 35;obtain⟨m1,fd⟩:∃m1:Nat,(1970:Int)=(m1:Int):=⟨1970,rfl⟩
   rw[fd];refine(fj ⟨#[120]⟩ m1 _ (by show 1*m1<=4000;omega) (by omega)).mono ?_;rintro e v6 ⟨tx,rfl,ht,hw⟩;rw[hw];have DE:tx.size<=1970:=p9 ht (by show 1*m1<=1970;omega);clear ht hw fd;refine b _ _ (λ_=>y) ?_;clear b K
   (try simp only[Act.put,nzL])
   refine ag (i:=4) rfl (by kernel_rfl) λK b=>?_;go_simp;refine b _ _ (λ_=>y) ?_;clear b K
   (try simp only[Act.put,nzL])
   have E:=ae ((q9 v).alloc ly (N #[U nm,J I 1,J I 0,U tx,Z Y 0 0,Z Y 0 0] 62));have NC:=ae (dx v #[U nm,J I 1,J I 0,U tx,Z Y 0 0,Z Y 0 0] 62);have At:Hid ((v.alloc (N #[U nm,J I 1,J I 0,U tx,Z Y 0 0,Z Y 0 0] 62)).cell? (Q X 0 Y)=T (Z a D.length c)):=(cq (a:=(Q X 0 Y)) (E.block X (ah ZO.bx))).trans y;clear y;refine ag (i:=5) rfl (by kernel_rfl) λK b=>?_;go_simp;refine b _ _ (λ_=>At) ?_;clear b K At
   (try simp only[Act.put,nzL])
   have ZM:=ae (own_below ZO.i E ly);have ZI:=ah ZO.rt;have aq:=E.size;generalize World.alloc v _=WC at E NC ZM aq ⊢;refine ag (i:=6) rfl (by kernel_rfl) λK b=>?_;refine aA rfl (.tmp 36) (.tmp 40) 23 rfl (ZJ+1) 62 DS (.agg #[U ⟨#[]⟩,J I 0,J I 0,U ⟨#[]⟩,Z Y 0 0,Z Y 0 0]) 6 96 MS hi GS Fm DH rfl (by decide) (Z a D.length c) D.length (D.flatMap ddV) (by simp[Act.eval]) ZM (Q v.heap.size 0 Y) 1 1 [U nm,J I 1,J I 0,U tx,Z Y 0 0,Z Y 0 0] (by simp[Act.eval]) rfl NC (by simp[Value.oneCell']) (by unfold maxLen;omega) (by omega) (by omega) ?_;intro v' w6 f o JH;obtain⟨g',c',rfl⟩:=bV f (by omega);obtain⟨P,ZN⟩:=rh (j:=0) ZO.bl E ZM o f th ZO.bx (by decide) ph;have ZL:=ae (ZO.add (r:=ju nm tx 1) (ZN (Z (T (Q g' 0 Y)) (D.length+1) c')).1 (cy P _) (ZN _).2.1 ⟨nm,tx,rfl,ld,DE⟩ (ZN _).2.2);have z0:A w6 (Q X 0 Y)=T (Z a D.length c):=by simp[World.cell?,P]
   have z1:w6.frozen? (Q X 0 Y)=ZA:=by simp[World.frozen?,P]
   have z2:=ah P;have y:=ae z0;clear ZN f o JH P ZO ZM NC E aq ZI;refine b _ _ (λ_=>y) ?_;clear b K
   (try simp only[Act.put,nzL])
   refine ag (i:=7) rfl (by kernel_rfl) λK b=>?_;go_simp;refine b _ _ (λ_=>y) ?_;clear b K
   (try simp only[Act.put,nzL])
   refine ag (i:=8) rfl (by kernel_rfl) λK b=>?_;go_simp;refine b _ _ (λh=>absurd rfl h) ?_;clear b K y
   (try simp only[Act.put,nzL])
   refine aW (by kernel_rfl) ?_ _;clear z0 z1 z2;generalize World.setCell w6 _ _=W9 at ZL ⊢;have B:=ZL.rt;have ZI:=ah B;have t0:A W9 (Q ZJ 5 Y)=T (Z al L.length cl):=by simp[World.cell?,B]
   have BL:=ae ((q9 W9).alloc ly (N #[U nm,ZD ZG,ZD ZA,J I (k:Int)] 93));have OL:=ae (own_below ZL.V BL ly);have hzL:=BL.size;clear B;go_wp2_with (at_builtin;refine bD _ rfl (.tmp 44) (.tmp 48) 60 rfl (ZJ+1) 93 JF (.agg #[U ⟨#[]⟩,ZD ZA,ZD ZA,J I 0]) 4 32 ON hj JB Ju Js rfl (by decide) (Z al L.length cl) L.length (L.flatMap cP) (by simp[Act.eval]) OL (Q W9.heap.size 0 Y) 1 1 [U nm,ZD ZG,ZD ZA,J I (k:Int)] (by simp[Act.eval]) rfl (dx W9 #[U nm,ZD ZG,ZD ZA,J I (k:Int)] 93) (by simp[Value.oneCell']) (by unfold maxLen;omega) (by omega) (by omega) ?_;intro v3 w3 f o n9;obtain⟨g3,c3,rfl⟩:=bV f (by omega);obtain⟨t,AQ⟩:=rh (j:=5) ZL.bl BL OL o f th ZL.rt (by decide) Jr;have S6:=ae (ZL.lk (l:=⟨nm,ZG,ZA,(k:Int)⟩) (AQ (Z (T (Q g3 0 Y)) (L.length+1) c3)).1 (cy t _) (AQ _).2.1 ld (AQ _).2.2);have u0:A w3 (Q ZJ 5 Y)=T (Z al L.length cl):=(by simp[World.cell?,t]);have u1:w3.frozen? (Q ZJ 5 Y)=ZA:=(by simp[World.frozen?,t]);have u2:=ah t;clear AQ f o n9 t t0 ZL OL BL);refine⟨⟨k+1,_,_,_,_,_,_,by go_num,by omega,⟨?_,?_⟩,S6⟩,by simp[intOf];omega⟩;{rw[cM,H.out.1];rfl};{rw[cM,H.out.2];rfl}
  ·have JD:D.length<=150:=by have:=H.out.1;omega
   have JA:L.length<=150:=by have:=H.out.2;omega
   have F:=C.bx;have B:=C.rt;have x0:A wr (Q X 0 Y)=T (Z a D.length c):=by simp[World.cell?,F]
   have t0:A wr (Q ZJ 0 Y)=T (U ⟨#[114]⟩):=by simp[World.cell?,B]
   have t1:A wr (Q ZJ 1 Y)=T (J I 3):=by simp[World.cell?,B]
   have t2:A wr (Q ZJ 2 Y)=T (J I 0):=by simp[World.cell?,B]
   have t3:A wr (Q ZJ 3 Y)=T (U ⟨#[]⟩):=by simp[World.cell?,B]
   have t4:A wr (Q ZJ 4 Y)=T (Z (T (Q ga 0 Y)) 1 1):=by simp[World.cell?,B]
   have t5:A wr (Q ZJ 5 Y)=T (Z al L.length cl):=by simp[World.cell?,B]
   have ZP:=ah F;have ZI:=ah B;have E:=ae ((q9 wr).alloc ly (N #[U ⟨#[114]⟩,J I 3,J I 0,U ⟨#[]⟩,Z (T (Q ga 0 Y)) 1 1,Z al L.length cl] 62));have ZM:=ae (own_below C.i E ly);have aq:=E.size;clear F B;go_upto_region 10 with (at_builtin;refine bD _ rfl (.tmp 52) (.tmp 54) 23 rfl (ZJ+1) 62 DS (.agg #[U ⟨#[]⟩,J I 0,J I 0,U ⟨#[]⟩,Z Y 0 0,Z Y 0 0]) 6 96 MS hi GS Fm DH rfl (by decide) (Z a D.length c) D.length (D.flatMap ddV) (by simp[Act.eval]) ZM (Q wr.heap.size 0 Y) 1 1 [U ⟨#[114]⟩,J I 3,J I 0,U ⟨#[]⟩,Z (T (Q ga 0 Y)) 1 1,Z al L.length cl] (by simp[Act.eval]) rfl (dx wr #[U ⟨#[114]⟩,J I 3,J I 0,U ⟨#[]⟩,Z (T (Q ga 0 Y)) 1 1,Z al L.length cl] 62) (by simp[Value.oneCell']) (by unfold maxLen;omega) (by omega) (by omega) ?_;intro v3 w3 f o n9;obtain⟨g,c',rfl⟩:=bV f (by omega);obtain⟨t,ZN⟩:=rh (j:=0) C.bl E ZM o f th C.bx (by decide) ph;have ZQ:=ae (C.fin (ZN (Z (T (Q g 0 Y)) (D.length+1) c')).1 (cy t _) (ZN _).2.1 (by have:=H.out.1;omega) (by have:=H.out.2;omega) (ZN _).2.2);have u0:A w3 (Q X 0 Y)=T (Z a D.length c):=(by simp[World.cell?,t]);have u1:w3.frozen? (Q X 0 Y)=ZA:=(by simp[World.frozen?,t]);have u2:=ah t;clear ZN f o n9 t ZM E x0 t0 t1 t2 t3 t4 t5);have ZR:Hid (∀j r,j<150->(D++[(nM L,Value.slice (T (Q ga 0 Y)) 1 1,Value.slice al L.length cl)])[j]?=T r->r.1.h.size<=1970):=λj r hj x=>by rw[MM (by have:=H.out.1;omega)] at x;obtain⟨nm,tx,rfl,-,h2⟩:=C.bare r (L8 x);exact h2
   clear C u0 u1 u2 ZP ZI H aq;generalize World.setCell w3 _ _=W3 at ZQ ⊢;generalize D++[(nM L,Value.slice (T (Q ga 0 Y)) 1 1,Value.slice al L.length cl)]=O at ZQ ZR;have F:=ZQ.bx;have x0:A W3 (Q X 0 Y)=T (Z (T (Q g 0 Y)) O.length c'):=by simp[World.cell?,F]
   have ZP:=ah F;have JG:=ZQ.len;have FA:=ae (fF (T (Q g 0 Y)) O.length c' (dF (O.map (·.1))) W3 (by omega) ZQ.row.am (λi hi=>by obtain⟨r,x,hm⟩:=cX hi;rw[fX x];exact(ZQ.ak r hm).fits) (λi hi=>by obtain⟨r,x,hm⟩:=cX hi;rw[fX x];exact(ZQ.ak r hm).sized));have Fd:=nh (dF (O.map (·.1))) O.length;generalize (⟨(cL (dF (O.map (·.1))) O.length).toArray⟩:ByteArray)=fs at FA Fd;clear F JG;go_wp2_with fail;refine FA.out.mono ?_;rintro e w4 ⟨rfl,Fk⟩;have T4:=ae (ZQ.aa Fk);clear Fk ZQ FA x0 ZP;go_wp2_with fail;go_loopw [7,8] (λn i wr=>∃(m j:Nat) (R:List DR),n=J I (m:Int)/\i=J I (j:Int)/\m<=300001/\j<=150/\Hid (L6T w X wr (T (Q g 0 Y)) c' R)/\Hid (∀q r,j<=q->q<150->R[q]?=T r->r.1.h.size<=1970)) (λ_ i _=>(150 - intOf i).toNat);case atStart=>exact⟨fs.size,0,O,rfl,rfl,by omega,by omega,T4,λq r _ hq x=>ZR.out q r hq x⟩
   case round =>
    clear T4 ZR Fd;obtain⟨m,j,R,rfl,rfl,hm,hj,z,ZR⟩:=hrel;have F:=z.bx;have x0:A wr (Q X 0 Y)=T (Z (T (Q g 0 Y)) R.length c'):=by simp[World.cell?,F]
    have ZP:=ah F;clear F;have JE:IntKind.i64.wrap (300000+G)=300000+G:=by rw[wA];omega
    by_cases Fn:(j:Int)<150/\(m:Int)<300000+G
    ·obtain⟨h1,h2⟩:=Fn;have Hx:IntKind.i64.wrap (300000+G - (m:Int))=300000+G - (m:Int):=by rw[wA];omega
     have Jz:R.length=151:=z.len;have Jv:j<R.length:=by omega
     obtain⟨r,x,Jw⟩:=cX Jv;have HR:=ae x;have DE:=ZR.out j r ly (by omega) x;clear x Jw;go_upto_if 75 with fail;go_cut [9] (λs wx=>∃v:Nat,s=J I (v:Int)/\v<=30/\(m:Int)+v<=300001/\wx=wr);case first =>
      by_cases h3:30<300000+G - (m:Int);{go_wp2;go_meet;exact⟨30,rfl,by omega,by omega,rfl⟩};{go_wp2;go_meet;exact⟨(300000+G - (m:Int)).toNat,by rw[UM (by omega)],by omega,by omega,rfl⟩}
     case rest =>
     obtain⟨v,rfl,hv,hmv,ro⟩:=hcut;subst ro;generalize ro:wc=wx at z x0 ZP ⊢;clear ro;have c0:=(cD z.row.i HR 3 (by omega) (u:=U r.1.h) rfl)
     have HC:=ae c0.1;have HZ:=ae c0.2;have ur:=(z.row.i.lt g rfl).2;have hjI:(j:Int)<(R.length:Int):=by omega
     have hwmv:IntKind.i64.wrap ((m:Int)+v)=(m:Int)+v:=by rw[wA];omega
     clear c0 Hx JE x0 ZP Jz;go_wp2_with fail;refine aE (λV=>A V (Q X 0 Y)=T (Z (T (Q g 0 Y)) R.length c')/\A V (Q g (j*6+3) Y)=T (U r.1.h)) 14 (by kernel_rfl) ?_;have T6:=ae (z.aa br.drew);have ZK:Hid (wx.drew.cell? (Q g (j*6+3) Y)=T (U r.1.h)):=HC;have qr:Hid (wx.drew.frozen? (Q g (j*6+3) Y)=ZA):=HZ;have la:g<wx.drew.heap.size:=ur;clear z HC HZ ur;generalize wx.drew=v4 at T6 ZK qr la ⊢;have y:Hid (A v4 (Q X 0 Y)=T (Z (T (Q g 0 Y)) R.length c')/\A v4 (Q g (j*6+3) Y)=T (U r.1.h)):=⟨by simp[World.cell?,T6.bx],ZK⟩
     iterate 10
      refine aI 0 (v:=?_) rfl rfl (by kernel_rfl) (λ_ _ _ h=>h) rfl ?_ y ?_;rotate_left
      ·(rintro wz ⟨s0,s1⟩;go_simp)
       (try with_reducible rfl)
      (try simp only[Act.put,nzL])
     refine ag (i:=10) rfl (by kernel_rfl) λK b=>?_;go_simp;go_at_call 35;refine(fj ⟨#[121]⟩ v _ (by show 1*v<=4000;omega) (by omega)).mono ?_;rintro e v6 ⟨ty,rfl,ht,hw⟩;rw[hw];have hty:ty.size<=30:=p9 ht (by show 1*v<=30;omega);have hcc:¬ 9223372036854775807<r.1.h.size+ty.size:=by omega
     clear ht hw;refine b _ _ (λ_=>y) ?_;clear b K
     (try simp only[Act.put,nzL])
     iterate 3
      refine cB 11 rfl rfl (by kernel_rfl) λK b=>?_;go_simp;refine b _ _ (λ_=>y) ?_;clear b K
      (try simp only[Act.put,nzL])
     have d0:=ZK.out;have d1:=qr.out;have T7:=ae (T6.txt (tx:=r.1.h++ty) HR (by rw[MQ];omega));have Jt:Hid (∀q r',j+1<=q->q<150->(R.set j ({ r.1 with h:=r.1.h++ty },r.2))[q]?=T r'->r'.1.h.size<=1970):=λq r' h5 h6 h7=>by rw[OR (by omega)] at h7;exact ZR.out q r' (by omega) h6 h7
     refine ag (i:=14) rfl (by kernel_rfl) λK b=>?_;go_simp;refine b _ _ (λh=>absurd rfl h) ?_;clear b K y
     (try simp only[Act.put,nzL])
     refine aW (by kernel_rfl) ?_ _;clear d0 d1 ZK qr T6 ZR la;generalize World.setCell v4 _ _=W7 at T7 ⊢;go_wp2;exact⟨⟨m+v,j+1,_,by go_num,by go_num,by omega,by omega,T7,Jt⟩,by simp[intOf];omega⟩
    ·have Id:R.length<=50000:=by have:=z.len;omega
     have HE:=ae ((uO (z.row.agr (qM (j:=0) (AI w.heap.size) (Z (T (Q g 0 Y)) R.length c'))) rfl z.ak Id).mono (F3 w.heap.size));have BE:=ae (z.bl.setCell (p:=(Q w.heap.size 0 Y)) ly (Z (T (Q g 0 Y)) R.length c'));have kr:=z.rs;have r0:A wr (Q w.heap.size 0 Y)=T (Z Y 0 0):=by simp[World.cell?,kr]
     have q0:wr.frozen? (Q w.heap.size 0 Y)=ZA:=by simp[World.frozen?,kr]
     have l0:=ah kr;clear kr z ZR;by_cases h1:(j:Int)<150;case' pos=>have h2:¬ (m:Int)<300000+G:=λh=>Fn ⟨h1,h⟩
     all_goals
      go_wp2;exact bp (v:=.agg #[Z (T (Q g 0 Y)) R.length c']) (by simp[results,results21,go_sem,r0]) rfl ⟨_,_,_,_,rfl,HE,BE⟩
