import Derived.Test.YtpmnbjkjpnclaaaGreatDoorPG
import Derived.Test.YtpmnbjkjpnclaaaGreatDoorRP
import Derived.Test.YtpmnbjkjpnclaaaGreatDoorRH
import Derived.Test.YtpmnbjkjpnclaaaGreatDoorQE
import Derived.Deep.CutBlock
set_option maxRecDepth 100000
set_option maxHeartbeats 8000000
open Go renaming Addr.mk->Q,Value.slice->Z,Value.string->Y,Value.int->J,Value.bool->ZD,Obj.cells->N,IntKind.i64->I,World->M,Value->ZC,World.cell?->A
open Option renaming none->U,some->T
open Bool renaming false->ZA,true->ZG
namespace Go.Proofs.YtpmnbjkjpnclaaaGreatDoor.Vp
open Tryz RowKit Ca
variable {w W W':M}{X c:Nat}{z:Nat × Nat}{L:List Link}{a:Option Addr}{R:List DR}
def GA (r:DR):Prop:=∃nm tx,r=jD nm tx 1/\nm.size<=5000/\tx.size<=1970
structure L6S (w:M)(X ZK:Nat)(W:M)(ga:Nat)(a:Option Addr)(c:Nat)(D:List DR)(al:Option Addr)(cl:Nat)(L:List Link):Prop where
 rs:W.heap[w.heap.size]?=T (N #[Z U 0 0] 37 (0,0))
 bx:W.heap[X]?=T (N #[Z a D.length c] 37 (0,0))
 rt:W.heap[ZK]?=T (N #[Y ⟨#[114]⟩,J I 3,J I 0,Y ⟨#[]⟩,Z (T (Q ga 0 U)) 1 1,Z al L.length cl] 46 (0,0))
 i:W.ownsRow (ZK+1) 46 6 (Z a D.length c) D.length (D.flatMap ddV)
 H:W.ownsRow (w.heap.size+1) 151 3 (Z (T (Q ga 0 U)) 1 1) 1 [J I 15,Y ⟨#[]⟩,J I 0]
 V:W.ownsRow (ZK+1) 91 4 (Z al L.length cl) L.length (L.flatMap cQ)
 bare:∀r∈D,GA r
 lf:∀l∈L,l.e.size<=5000
 lo:w.heap.size<X/\X<ZK
 bl:Below w.heap.size w W
section
variable {w W W':M}{X ZK ga c c' cl:Nat}{a a' al:Option Addr}{D:List DR}{L:List Link}{r:DR}{l:Link}
theorem L6S.aa (h:L6S w X ZK W ga a c D al cl L)(hb:Below W.heap.size W W'):L6S w X ZK W' ga a c D al cl L :=
 ⟨(hb.block _ (ag h.rs)).trans h.rs,(hb.block _ (ag h.bx)).trans h.bx,(hb.block _ (ag h.rt)).trans h.rt,own_below h.i hb ly,own_below h.H hb ly,own_below h.V hb ly,h.bare,h.lf,h.lo,h.bl.trans (hb.mono h.bl.size)⟩
theorem iN{W:M}{k:Nat}{e b:TypeId}{f:Array ZC}(h:OfTy W k e)(c:W.heap[k]?=T (N f b z)):e=b:=by obtain⟨c1,z1,h1⟩:=h;rw[c] at h1;simp at h1;exact h1.2.1.symm
theorem rS{w W f V:M}{X j b sz n m c' r:Nat}{i tb:TypeId}{v:ZC}{ZR x:List ZC}{h:Array ZC}(c:Below w.heap.size w W)(g:Below W.heap.size W f)(y:f.ownsRow b i sz v n ZR)(q:f.grownBy V v.ownBlock)(o:V.ownsRow b i sz (Z (T (Q r 0 U)) m c') m x)(hb:w.heap.size<=b)(hX:W.heap[X]?=T (N h tb z))(l:i≠tb)(s:w.heap.size<=X):V.heap[X]?=T (N h tb z)/\∀u,(∀k,k<W.heap.size->T k≠v.ownBlock->k≠X->(V.setCell (Q X j U) u).heap[k]?=W.heap[k]?)/\(V.setCell (Q X j U) u).ownsRow b i sz (Z (T (Q r 0 U)) m c') m x/\Below w.heap.size w (V.setCell (Q X j U) u):=by
 have hz:=g.size;have B:=ag hX;have h1:f.heap[X]?=T (N h tb z):=(g.block X B).trans hX;have h2:V.heap[X]?=T (N h tb z):=(q.block X (by omega) (λe=>l (iN (bu y X e.symm) h1))).trans h1;refine⟨h2,λu=>⟨λk t C E=>(qh V (Q X j U) u k E).trans ((q.block k (by omega) C).trans (g.block k t)),bD o λk t D=>qh V (Q X j U) u k (λe=>?_),?_⟩⟩;{have e:k=X:=e;subst e;exact l (iN D h2)};{exact((c.trans (g.mono c.size)).trans (bg (dB w.heap.size f) q (p7 c.size hz) (λk e=>p7 hb (y.lt k e).1))).setCell (p:=(Q X j U)) s u}
theorem L6S.far (h:L6S w X ZK W ga a c D al cl L)(keep:∀k,k<W.heap.size->T k≠(Value.slice a D.length c).ownBlock->k≠X->W'.heap[k]?=W.heap[k]?):(∀k,k<=ZK->k≠X->W'.heap[k]?=W.heap[k]?)/\∀k e,OfTy W k e->e≠46->e≠37->W'.heap[k]?=W.heap[k]?:=by refine⟨λk f hX=>keep k (Nat.lt_of_le_of_lt f (ag h.rt)) (λe=>by have:=(h.i.lt k e.symm).1;have:=h.lo;omega) hX,λk e f h1 h2=>?_⟩;obtain⟨c1,z1,g⟩:=f;refine keep k (ag g) (λb=>h1 (iN (bu h.i k b.symm) g).symm) (λb=>?_);subst b;exact h2 (iN ⟨_,_,h.bx⟩ g).symm
theorem L6S.add (h:L6S w X ZK W ga a c D al cl L)(keep:∀k,k<W.heap.size->T k≠(Value.slice a D.length c).ownBlock->k≠X->W'.heap[k]?=W.heap[k]?)(l:W'.heap[X]?=T (N #[Z a' (D.length+1) c'] 37 (0,0)))
  (g:W'.ownsRow (ZK+1) 46 6 (Z a' (D.length+1) c') (D.length+1) (D.flatMap ddV++ddV r)) (m:GA r) (hb:Below w.heap.size w W'):L6S w X ZK W' ga a' c' (D++[r]) al cl L:=by
 have hlo:=h.lo;obtain⟨low,f⟩:=h.far keep;have j:(D++[r]).length=D.length+1:=by simp
 refine⟨(low _ (by omega) (by omega)).trans h.rs,by rw[j];exact l,(low ZK ly (by omega)).trans h.rt,?_,bD h.H λk n i=>f k _ i (by decide) (by decide),bD h.V λk n i=>f k _ i (by decide) (by decide),λx b=>?_,h.lf,h.lo,hb⟩;{rw[j,BO];simpa using g};{rcases p8.1 b with b|b;{exact h.bare x b};{rw[nD.1 b];exact m}}
theorem L6S.lk (h:L6S w X ZK W ga a c D al cl L)(keep:∀k,k<W.heap.size->T k≠(Value.slice al L.length cl).ownBlock->k≠ZK->W'.heap[k]?=W.heap[k]?)
  (p:W'.heap[ZK]?=T (N #[Y ⟨#[114]⟩,J I 3,J I 0,Y ⟨#[]⟩,Z (T (Q ga 0 U)) 1 1,Z a' (L.length+1) c'] 46 (0,0)))
  (j:W'.ownsRow (ZK+1) 91 4 (Z a' (L.length+1) c') (L.length+1) (L.flatMap cQ++cQ l)) (q:l.e.size<=5000) (hb:Below w.heap.size w W'):L6S w X ZK W' ga a c D a' c' (L++[l]):=by
 have m:=h.lo;have low:∀k,k<ZK->W'.heap[k]?=W.heap[k]?:=λk b=>keep k (Nat.lt_trans b (ag h.rt)) (λe=>by have:=(h.V.lt k e.symm).1;omega) (by omega);have i:∀k e,OfTy W k e->e≠91->k≠ZK->W'.heap[k]?=W.heap[k]?:=λk e b h1 h2=>by obtain⟨c1,z1,n⟩:=b;exact keep k (ag n) (λr=>h1 (iN (bu h.V k r.symm) n).symm) h2
 have o:(L++[l]).length=L.length+1:=by simp
 refine⟨(low _ (by omega)).trans h.rs,(low X m.2).trans h.bx,by rw[o];exact p,bD h.i λk b g=>i k _ g (by decide) (by have:=(h.i.lt k b).1;omega),bD h.H λk b g=>i k _ g (by decide) (λe=>by subst e;exact absurd (iN g h.rt) (by decide)),?_,h.bare,λx f=>?_,h.lo,hb⟩;{rw[o,BO];simpa using j};{rcases p8.1 f with f|f;{exact h.lf x f};{rw[nD.1 f];exact q}}
end
def nZ (L:List Link):Deed:=⟨⟨#[114]⟩,3,0,⟨#[]⟩,1,λ_=>⟨15,⟨#[]⟩,0⟩,L.length,λj=>L.getD j jT⟩
theorem Du (L:List Link):bq (λj=>L.getD j jT) L.length=L.flatMap cQ:=by unfold bq;congr 1;refine List.ext_getElem (by simp) λi h1 h2=>?_;simp[gq h2]
theorem Gl (h:∀l∈L,l.e.size<=5000)(hl:L.length<=150):FitD (nZ L) :=
 ⟨by show(⟨#[114]⟩:ByteArray).size<=5000;decide,by show(⟨#[]⟩:ByteArray).size<=5000;decide,by show 1<=300;omega,λj _=>by show(⟨#[]⟩:ByteArray).size<=5000;decide,by show L.length<=300;omega,λj c=>by
  have b:j<L.length:=c;show(L.getD j jT).e.size<=5000;rw[IA,gq b]
  exact h _ (gz b)⟩
structure L6T (w:M)(X:Nat)(W:M)(a:Option Addr)(c:Nat)(R:List DR):Prop where
 rs:W.heap[w.heap.size]?=T (N #[Z U 0 0] 37 (0,0))
 bx:W.heap[X]?=T (N #[Z a R.length c] 37 (0,0))
 row:DRw W (w.heap.size+1) (Z a R.length c) R
 ad:∀r∈R,FitD r.1
 lo:w.heap.size<X
 len:R.length=151
 bl:Below w.heap.size w W
theorem L6T.aa (h:L6T w X W a c R)(hb:Below W.heap.size W W'):L6T w X W' a c R :=
 ⟨(hb.block _ (ag h.rs)).trans h.rs,(hb.block _ (ag h.bx)).trans h.bx,h.row.aa hb ly,h.ad,h.lo,h.len,h.bl.trans (hb.mono h.bl.size)⟩
theorem L6T.txt{g k:Nat}{r:DR}{tx:ByteArray}(h:L6T w X W (T (Q g 0 U)) c R)(i:R[k]?=T r)(n:tx.size<=5000):L6T w X (W.setCell (Q g (k*6+3) U) (Y tx)) (T (Q g 0 U)) c (R.set k ({ r.1 with B:=tx },r.2)):=by
 have j:=LB i;have hg:=h.row.i.lt g rfl;have f:(R.set k ({ r.1 with B:=tx },r.2)).length=R.length:=KK;have l:g≠X:=λe=>by subst e;exact absurd (iN (bu h.row.i g rfl) h.bx) (by decide)
 refine⟨(qh W (Q g _ U) _ _ (by show w.heap.size≠g;omega)).trans h.rs,?_,?_,λx m=>?_,h.lo,f.trans h.len,h.bl.setCell (p:=(Q g _ U)) (by show w.heap.size<=g;omega) _⟩;{rw[f];exact(qh W (Q g _ U) _ _ (WJ l)).trans h.bx};{rw[f];exact h.row.fld rfl i (by omega) rfl ((h.row.sub r j).same _ rfl rfl rfl rfl)};{refine lF (P:=FitD) h.ad ?_ x m;have b:=h.ad r j;exact⟨b.nm,n,b.an,b.asz,b.ln,b.lsz⟩}
theorem L6S.fin{ZK ga c' cl:Nat}{a' al:Option Addr}{D:List DR}(h:L6S w X ZK W ga a c D al cl L)(keep:∀k,k<W.heap.size->T k≠(Value.slice a D.length c).ownBlock->k≠X->W'.heap[k]?=W.heap[k]?)(n:W'.heap[X]?=T (N #[Z a' (D.length+1) c'] 37 (0,0)))
  (i:W'.ownsRow (ZK+1) 46 6 (Z a' (D.length+1) c') (D.length+1) (D.flatMap ddV++[Y ⟨#[114]⟩,J I 3,J I 0,Y ⟨#[]⟩,Z (T (Q ga 0 U)) 1 1,Z al L.length cl])) (p:D.length=150) (hL:L.length=150) (hb:Below w.heap.size w W'):L6T w X W' a' c' (D++[(nZ L,Z (T (Q ga 0 U)) 1 1,Z al L.length cl)]):=by
 have m:=h.lo;obtain⟨low,f⟩:=h.far keep;have l:(D++[(nZ L,Value.slice (T (Q ga 0 U)) 1 1,Value.slice al L.length cl)]).length=D.length+1:=by simp
 refine⟨(low _ (by omega) (by omega)).trans h.rs,by rw[l];exact n,⟨?_,λx b=>?_⟩,λx b=>?_,m.1,by rw[l,p],hb⟩;{rw[l,BO];have h1:=aB i (show w.heap.size+1<=ZK+1 by omega);simpa[ddV,nZ] using h1};{rcases p8.1 b with b|b;{obtain⟨nm,tx,rfl,-,-⟩:=h.bare x b;exact vK _ _ _ _ _};{rw[nD.1 b];refine⟨bD h.H λk o g=>f k _ g (by decide) (by decide),?_⟩;have h2:=aB (bD h.V λk o g=>f k _ g (by decide) (by decide)) (show w.heap.size+1<=ZK+1 by omega);show W'.ownsRow _ _ _ _ L.length (bq (λj=>L.getD j jT) L.length);rw[Du];exact h2}};{rcases p8.1 b with b|b;{obtain⟨nm,tx,rfl,h1,h2⟩:=h.bare x b;exact(pz (K:=0) 1 h1 (by omega)).d (by omega)};{rw[nD.1 b];exact Gl h.lf (by omega)}}
def DFa (w:M)(e:Ending)(b:M):Prop:=∃(a:Option Addr) (n c:Nat) (f:Nat->Deed),e=.returned (.agg #[Z a n c])/\HAc w.heap.size b a n c f/\Below w.heap.size w b
theorem tk (f:Nat->Deed)(n:Nat):((⟨(bF f n).toArray⟩:ByteArray).size:Int)<=300000:=by have h:=lX (rfl:bF f n=bF f n);show(((bF f n).toArray).size:Int)<=300000;rw[CV];omega
theorem Aw (E:Int)(hm0:-1<=E)(ld:E<=1)(w:M):Calls Tryz.prog 132 #[J I E] w λe w'=>DFa w e w':=by
 obtain⟨Fn,hi,ur,Fd,DE⟩:=L8 fk;obtain⟨KM,hj,KH,KF,Hx⟩:=L8 iy;obtain⟨W0,sm⟩:∃W:M,(w.alloc (N #[Z U 0 0] 37)).alloc (N #[Z U 0 0] 37)=W:=⟨_,rfl⟩
 obtain⟨A0,K0,K1,Kx⟩:=nb2 sm;have Fk:=ae sm;clear sm;go_enter func132,ntmps132;go_wp2_with fail;rw[Fk.out];clear Fk;refine(aW 15 W0).mono ?_;rintro e S ⟨rfl,dg⟩;have KO:=dg.size;obtain⟨W1,ph⟩:∃W:M,(S.alloc (N #[J I 15,Y ⟨#[]⟩,J I 0] 151)).alloc (N #[Y ⟨#[114]⟩,J I 3,J I 0,Y ⟨#[]⟩,Z (T (Q S.heap.size 0 U)) 1 1,Z U 0 0] 46)=W:=⟨_,rfl⟩
 obtain⟨A1,K2,K3,Kz⟩:=nb2 ph;have DQ:=ae ph;have ZI:=dg.trans (A1.out.mono dg.size);have S1:Hid (L6S w (w.heap.size+1) (S.heap.size+1) W1 S.heap.size U 0 [] U 0 []):=⟨(ZI.block _ (by omega)).trans K0,(ZI.block _ (by omega)).trans K1,K3,A9 _ _ _ _,⟨rfl,.inr ⟨S.heap.size,1,_,rfl,by omega,K2,n6 _,by unfold maxLen;omega,rfl,rfl⟩⟩,A9 _ _ _ _,λr x=>(by cases x),λr x=>(by cases x),⟨by omega,by omega⟩,A0.out.trans (ZI.mono (by omega))⟩
 clear ph A0 K0 K1 K2 K3 A1 dg ZI Kx Kz KO;go_upto_region 3 with fail;rw[DQ.out];clear DQ;generalize w.heap.size+1=X at S1 ⊢;generalize S.heap.size+1=ZK at S1 ⊢;generalize S.heap.size=ga at S1 ⊢;go_wp2_with fail;go_loopw [5] (λi wr=>∃(k:Nat) (a:Option Addr) (c:Nat) (D:List DR) (al:Option Addr) (cl:Nat) (L:List Link),i=J I (k:Int)/\k<=150/\Hid (D.length=k/\L.length=k)/\Hid (L6S w X ZK wr ga a c D al cl L)) (λi _=>(150 - intOf i).toNat);case atStart=>exact⟨0,_,_,_,_,_,_,rfl,by omega,⟨rfl,rfl⟩,S1⟩
 case round =>
  clear S1;obtain⟨k,a,c,D,al,cl,L,rfl,hk,H,C⟩:=hrel;have qr:=P0 C.lo.1;have Id:=p7 qr (P0 C.lo.2);have mv:w.heap.size<=ZK+1:=by omega
  by_cases hk9:(k:Int)<150
  ·obtain⟨KJ,q1,q2,q3,q4,q5,q6,r1,r2,r3,s1,s2,s3⟩:=I6 k (by omega);have A3:=ae ((q9 wr).alloc ly (N #[J .u8 (48+(k:Int) / 100),J .u8 (48+(k:Int) / 10 % 10),J .u8 (48+(k:Int) % 10)] 5));have fd:(⟨#[115]⟩++⟨#[dig (k / 100),dig (k / 10 % 10),dig (k % 10)]⟩:ByteArray).size<=5000:=by simp only[IH];show 1+3<=5000;omega
   go_upto_region 7 with fail;clear KJ q1 q2 q3 q4 q5 q6 r1 r2 r3 s1 s2 s3;generalize (⟨#[115]⟩++⟨#[dig (k / 100),dig (k / 10 % 10),dig (k % 10)]⟩:ByteArray)=nm at fd ⊢;have S3:=ae (C.aa A3);clear C;generalize World.alloc wr _=W3 at A3 S3 ⊢;clear A3;have KC:D.length<150:=by have:=H.out.1;omega
   have KP:L.length<150:=by have:=H.out.2;omega
   go_wp2_with fail;refine aD (λV=>A V (Q X 0 U)=T (Z a D.length c)) 8 (by kernel_rfl) ?_;have ZO:=ae (S3.aa br.drew);clear S3;generalize W3.drew=v at ZO ⊢;have y:Hid (A v (Q X 0 U)=T (Z a D.length c)):=by show _=_;simp[World.cell?,ZO.bx]
   iterate 3
    refine aI 0 (v:=?_) rfl rfl (by kernel_rfl) (λ_ _ _ h=>h) rfl ?_ y ?_;rotate_left
    ·(intro wz s0;go_simp)
     (try with_reducible rfl)
    (try simp only[Act.put,nzL])
   refine ah (i:=3) rfl (by kernel_rfl) λK b=>?_;go_simp;go_at_call 74;obtain⟨m1,ld⟩:∃m1:Nat,(1970:Int)=(m1:Int):=⟨1970,rfl⟩
   rw[ld];refine(eP ⟨#[120]⟩ m1 _ (by show 1*m1<=4000;omega) (by omega)).mono ?_;rintro e v6 ⟨tx,rfl,ht,hw⟩;rw[hw];have Bk:tx.size<=1970:=p7 ht (by show 1*m1<=1970;omega);clear ht hw ld;refine b _ _ (λ_=>y) ?_;clear b K
   (try simp only[Act.put,nzL])
   refine ah (i:=4) rfl (by kernel_rfl) λK b=>?_;go_simp;refine b _ _ (λ_=>y) ?_;clear b K
   (try simp only[Act.put,nzL])
   have F:=ae ((q9 v).alloc ly (N #[Y nm,J I 1,J I 0,Y tx,Z U 0 0,Z U 0 0] 46));have NC:=ae (dy v #[Y nm,J I 1,J I 0,Y tx,Z U 0 0,Z U 0 0] 46);have At:Hid ((v.alloc (N #[Y nm,J I 1,J I 0,Y tx,Z U 0 0,Z U 0 0] 46)).cell? (Q X 0 U)=T (Z a D.length c)):=(cq (a:=(Q X 0 U)) (F.block X (ag ZO.bx))).trans y;clear y;refine ah (i:=5) rfl (by kernel_rfl) λK b=>?_;go_simp;refine b _ _ (λ_=>At) ?_;clear b K At
   (try simp only[Act.put,nzL])
   have P:=ae (own_below ZO.i F ly);have ZJ:=ag ZO.rt;have bt:=F.size;generalize World.alloc v _=WC at F NC P bt ⊢;refine ah (i:=6) rfl (by kernel_rfl) λK b=>?_;refine aG rfl (.tmp 36) (.tmp 40) 35 rfl (ZK+1) 46 Fn (.agg #[Y ⟨#[]⟩,J I 0,J I 0,Y ⟨#[]⟩,Z U 0 0,Z U 0 0]) 6 96 OT hi ur Fd DE rfl (by decide) (Z a D.length c) D.length (D.flatMap ddV) (by simp[Act.eval]) P (Q v.heap.size 0 U) 1 1 [Y nm,J I 1,J I 0,Y tx,Z U 0 0,Z U 0 0] (by simp[Act.eval]) rfl NC (by simp[Value.oneCell']) (by unfold maxLen;omega) (by omega) (by omega) ?_;intro v' w6 f o Kt;obtain⟨g',c',rfl⟩:=cC f (by omega);obtain⟨O,ZN⟩:=rS (j:=0) ZO.bl F P o f mv ZO.bx (by decide) qr;have ZL:=ae (ZO.add (r:=jD nm tx 1) (ZN (Z (T (Q g' 0 U)) (D.length+1) c')).1 (bW O _) (ZN _).2.1 ⟨nm,tx,rfl,fd,Bk⟩ (ZN _).2.2);have z0:A w6 (Q X 0 U)=T (Z a D.length c):=by simp[World.cell?,O]
   have z1:w6.frozen? (Q X 0 U)=ZA:=by simp[World.frozen?,O]
   have z2:=ag O;have y:=ae z0;clear ZN f o Kt O ZO P NC F bt ZJ;refine b _ _ (λ_=>y) ?_;clear b K
   (try simp only[Act.put,nzL])
   refine ah (i:=7) rfl (by kernel_rfl) λK b=>?_;go_simp;refine b _ _ (λ_=>y) ?_;clear b K
   (try simp only[Act.put,nzL])
   refine ah (i:=8) rfl (by kernel_rfl) λK b=>?_;go_simp;refine b _ _ (λh=>absurd rfl h) ?_;clear b K y
   (try simp only[Act.put,nzL])
   refine aX (by kernel_rfl) ?_ _;clear z0 z1 z2;generalize World.setCell w6 _ _=W9 at ZL ⊢;have B:=ZL.rt;have ZJ:=ag B;have t0:A W9 (Q ZK 5 U)=T (Z al L.length cl):=by simp[World.cell?,B]
   have BL:=ae ((q9 W9).alloc ly (N #[Y nm,ZD ZG,ZD ZA,J I (k:Int)] 91));have OL:=ae (own_below ZL.V BL ly);have hzL:=BL.size;clear B;go_wp2_with (at_builtin;refine bC _ rfl (.tmp 44) (.tmp 48) 44 rfl (ZK+1) 91 KM (.agg #[Y ⟨#[]⟩,ZD ZA,ZD ZA,J I 0]) 4 32 QV hj KH KF Hx rfl (by decide) (Z al L.length cl) L.length (L.flatMap cQ) (by simp[Act.eval]) OL (Q W9.heap.size 0 U) 1 1 [Y nm,ZD ZG,ZD ZA,J I (k:Int)] (by simp[Act.eval]) rfl (dy W9 #[Y nm,ZD ZG,ZD ZA,J I (k:Int)] 91) (by simp[Value.oneCell']) (by unfold maxLen;omega) (by omega) (by omega) ?_;intro v3 w3 f o la;obtain⟨g3,c3,rfl⟩:=cC f (by omega);obtain⟨t,AQ⟩:=rS (j:=5) ZL.bl BL OL o f mv ZL.rt (by decide) Id;have S6:=ae (ZL.lk (l:=⟨nm,ZG,ZA,(k:Int)⟩) (AQ (Z (T (Q g3 0 U)) (L.length+1) c3)).1 (bW t _) (AQ _).2.1 fd (AQ _).2.2);have u0:A w3 (Q ZK 5 U)=T (Z al L.length cl):=(by simp[World.cell?,t]);have u1:w3.frozen? (Q ZK 5 U)=ZA:=(by simp[World.frozen?,t]);have u2:=ag t;clear AQ f o la t t0 ZL OL BL);refine⟨⟨k+1,_,_,_,_,_,_,by go_num,by omega,⟨?_,?_⟩,S6⟩,by simp[intOf];omega⟩;{rw[cM,H.out.1];rfl};{rw[cM,H.out.2];rfl}
  ·have KC:D.length<=150:=by have:=H.out.1;omega
   have KP:L.length<=150:=by have:=H.out.2;omega
   have G:=C.bx;have B:=C.rt;have x0:A wr (Q X 0 U)=T (Z a D.length c):=by simp[World.cell?,G]
   have t0:A wr (Q ZK 0 U)=T (Y ⟨#[114]⟩):=by simp[World.cell?,B]
   have t1:A wr (Q ZK 1 U)=T (J I 3):=by simp[World.cell?,B]
   have t2:A wr (Q ZK 2 U)=T (J I 0):=by simp[World.cell?,B]
   have t3:A wr (Q ZK 3 U)=T (Y ⟨#[]⟩):=by simp[World.cell?,B]
   have t4:A wr (Q ZK 4 U)=T (Z (T (Q ga 0 U)) 1 1):=by simp[World.cell?,B]
   have t5:A wr (Q ZK 5 U)=T (Z al L.length cl):=by simp[World.cell?,B]
   have ZP:=ag G;have ZJ:=ag B;have F:=ae ((q9 wr).alloc ly (N #[Y ⟨#[114]⟩,J I 3,J I 0,Y ⟨#[]⟩,Z (T (Q ga 0 U)) 1 1,Z al L.length cl] 46));have P:=ae (own_below C.i F ly);have bt:=F.size;clear G B;go_upto_region 10 with (at_builtin;refine bC _ rfl (.tmp 52) (.tmp 54) 35 rfl (ZK+1) 46 Fn (.agg #[Y ⟨#[]⟩,J I 0,J I 0,Y ⟨#[]⟩,Z U 0 0,Z U 0 0]) 6 96 OT hi ur Fd DE rfl (by decide) (Z a D.length c) D.length (D.flatMap ddV) (by simp[Act.eval]) P (Q wr.heap.size 0 U) 1 1 [Y ⟨#[114]⟩,J I 3,J I 0,Y ⟨#[]⟩,Z (T (Q ga 0 U)) 1 1,Z al L.length cl] (by simp[Act.eval]) rfl (dy wr #[Y ⟨#[114]⟩,J I 3,J I 0,Y ⟨#[]⟩,Z (T (Q ga 0 U)) 1 1,Z al L.length cl] 46) (by simp[Value.oneCell']) (by unfold maxLen;omega) (by omega) (by omega) ?_;intro v3 w3 f o la;obtain⟨g,c',rfl⟩:=cC f (by omega);obtain⟨t,ZN⟩:=rS (j:=0) C.bl F P o f mv C.bx (by decide) qr;have ZQ:=ae (C.fin (ZN (Z (T (Q g 0 U)) (D.length+1) c')).1 (bW t _) (ZN _).2.1 (by have:=H.out.1;omega) (by have:=H.out.2;omega) (ZN _).2.2);have u0:A w3 (Q X 0 U)=T (Z a D.length c):=(by simp[World.cell?,t]);have u1:w3.frozen? (Q X 0 U)=ZA:=(by simp[World.frozen?,t]);have u2:=ag t;clear ZN f o la t P F x0 t0 t1 t2 t3 t4 t5);have ZR:Hid (∀j r,j<150->(D++[(nZ L,Value.slice (T (Q ga 0 U)) 1 1,Value.slice al L.length cl)])[j]?=T r->r.1.B.size<=1970):=λj r hj x=>by rw[N9 (by have:=H.out.1;omega)] at x;obtain⟨nm,tx,rfl,-,h2⟩:=C.bare r (LB x);exact h2
   clear C u0 u1 u2 ZP ZJ H bt;generalize World.setCell w3 _ _=W3 at ZQ ⊢;generalize D++[(nZ L,Value.slice (T (Q ga 0 U)) 1 1,Value.slice al L.length cl)]=ZM at ZQ ZR;have G:=ZQ.bx;have x0:A W3 (Q X 0 U)=T (Z (T (Q g 0 U)) ZM.length c'):=by simp[World.cell?,G]
   have ZP:=ag G;have Ku:=ZQ.len;have FA:=ae (ig (T (Q g 0 U)) ZM.length c' (dF (ZM.map (·.1))) W3 (by omega) ZQ.row.ak (λi hi=>by obtain⟨r,x,hm⟩:=cZ hi;rw[gn x];exact(ZQ.ad r hm).fits) (λi hi=>by obtain⟨r,x,hm⟩:=cZ hi;rw[gn x];exact(ZQ.ad r hm).sized));have Fm:=tk (dF (ZM.map (·.1))) ZM.length;generalize (⟨(bF (dF (ZM.map (·.1))) ZM.length).toArray⟩:ByteArray)=fs at FA Fm;clear G Ku;go_wp2_with fail;refine FA.out.mono ?_;rintro e w4 ⟨rfl,DS⟩;have T4:=ae (ZQ.aa DS);clear DS ZQ FA x0 ZP;go_wp2_with fail;go_loopw [7,8] (λn i wr=>∃(m j:Nat) (R:List DR),n=J I (m:Int)/\i=J I (j:Int)/\m<=300001/\j<=150/\Hid (L6T w X wr (T (Q g 0 U)) c' R)/\Hid (∀q r,j<=q->q<150->R[q]?=T r->r.1.B.size<=1970)) (λ_ i _=>(150 - intOf i).toNat);case atStart=>exact⟨fs.size,0,ZM,rfl,rfl,by omega,by omega,T4,λq r _ hq x=>ZR.out q r hq x⟩
   case round =>
    clear T4 ZR Fm;obtain⟨m,j,R,rfl,rfl,hm,hj,z,ZR⟩:=hrel;have G:=z.bx;have x0:A wr (Q X 0 U)=T (Z (T (Q g 0 U)) R.length c'):=by simp[World.cell?,G]
    have ZP:=ag G;clear G;have KN:IntKind.i64.wrap (300000+E)=300000+E:=by rw[p9];omega
    by_cases DH:(j:Int)<150/\(m:Int)<300000+E
    ·obtain⟨h1,h2⟩:=DH;have KD:IntKind.i64.wrap (300000+E - (m:Int))=300000+E - (m:Int):=by rw[p9];omega
     have Kv:R.length=151:=z.len;have KB:j<R.length:=by omega
     obtain⟨r,x,JT⟩:=cZ KB;have HR:=ae x;have Bk:=ZR.out j r ly (by omega) x;clear x JT;go_upto_if 75 with fail;go_cut [9] (λs wx=>∃v:Nat,s=J I (v:Int)/\v<=30/\(m:Int)+v<=300001/\wx=wr);case first =>
      by_cases h3:30<300000+E - (m:Int);{go_wp2;go_meet;exact⟨30,rfl,by omega,by omega,rfl⟩};{go_wp2;go_meet;exact⟨(300000+E - (m:Int)).toNat,by rw[UL (by omega)],by omega,by omega,rfl⟩}
     case rest =>
     obtain⟨v,rfl,hv,hmv,th⟩:=hcut;subst th;generalize th:wc=wx at z x0 ZP ⊢;clear th;have c0:=(cR z.row.i HR 3 (by omega) (u:=Y r.1.B) rfl)
     have HC:=ae c0.1;have HZ:=ae c0.2;have GS:=(z.row.i.lt g rfl).2;have hjI:(j:Int)<(R.length:Int):=by omega
     have hwmv:IntKind.i64.wrap ((m:Int)+v)=(m:Int)+v:=by rw[p9];omega
     clear c0 KD KN x0 ZP Kv;go_wp2_with fail;refine aD (λV=>A V (Q X 0 U)=T (Z (T (Q g 0 U)) R.length c')/\A V (Q g (j*6+3) U)=T (Y r.1.B)) 14 (by kernel_rfl) ?_;have T6:=ae (z.aa br.drew);have aq:Hid (wx.drew.cell? (Q g (j*6+3) U)=T (Y r.1.B)):=HC;have ro:Hid (wx.drew.frozen? (Q g (j*6+3) U)=ZA):=HZ;have n9:g<wx.drew.heap.size:=GS;clear z HC HZ GS;generalize wx.drew=v4 at T6 aq ro n9 ⊢;have y:Hid (A v4 (Q X 0 U)=T (Z (T (Q g 0 U)) R.length c')/\A v4 (Q g (j*6+3) U)=T (Y r.1.B)):=⟨by simp[World.cell?,T6.bx],aq⟩
     iterate 10
      refine aI 0 (v:=?_) rfl rfl (by kernel_rfl) (λ_ _ _ h=>h) rfl ?_ y ?_;rotate_left
      ·(rintro wz ⟨s0,s1⟩;go_simp)
       (try with_reducible rfl)
      (try simp only[Act.put,nzL])
     refine ah (i:=10) rfl (by kernel_rfl) λK b=>?_;go_simp;go_at_call 74;refine(eP ⟨#[121]⟩ v _ (by show 1*v<=4000;omega) (by omega)).mono ?_;rintro e v6 ⟨ty,rfl,ht,hw⟩;rw[hw];have hty:ty.size<=30:=p7 ht (by show 1*v<=30;omega);have hcc:¬ 9223372036854775807<r.1.B.size+ty.size:=by omega
     clear ht hw;refine b _ _ (λ_=>y) ?_;clear b K
     (try simp only[Act.put,nzL])
     iterate 3
      refine cD 11 rfl rfl (by kernel_rfl) λK b=>?_;go_simp;refine b _ _ (λ_=>y) ?_;clear b K
      (try simp only[Act.put,nzL])
     have d0:=aq.out;have d1:=ro.out;have T7:=ae (T6.txt (tx:=r.1.B++ty) HR (by rw[IH];omega));have Ky:Hid (∀q r',j+1<=q->q<150->(R.set j ({ r.1 with B:=r.1.B++ty },r.2))[q]?=T r'->r'.1.B.size<=1970):=λq r' h5 h6 h7=>by rw[QK (by omega)] at h7;exact ZR.out q r' (by omega) h6 h7
     refine ah (i:=14) rfl (by kernel_rfl) λK b=>?_;go_simp;refine b _ _ (λh=>absurd rfl h) ?_;clear b K y
     (try simp only[Act.put,nzL])
     refine aX (by kernel_rfl) ?_ _;clear d0 d1 aq ro T6 ZR n9;generalize World.setCell v4 _ _=W7 at T7 ⊢;go_wp2;exact⟨⟨m+v,j+1,_,by go_num,by go_num,by omega,by omega,T7,Ky⟩,by simp[intOf];omega⟩
    ·have Kw:R.length<=50000:=by have:=z.len;omega
     have HE:=ae ((vI (z.row.agr (rB (j:=0) (AP w.heap.size) (Z (T (Q g 0 U)) R.length c'))) rfl z.ad Kw).mono (F6 w.heap.size));have BE:=ae (z.bl.setCell (p:=(Q w.heap.size 0 U)) ly (Z (T (Q g 0 U)) R.length c'));have kr:=z.rs;have r0:A wr (Q w.heap.size 0 U)=T (Z U 0 0):=by simp[World.cell?,kr]
     have q0:wr.frozen? (Q w.heap.size 0 U)=ZA:=by simp[World.frozen?,kr]
     have l0:=ag kr;clear kr z ZR;by_cases h1:(j:Int)<150;case' pos=>have h2:¬ (m:Int)<300000+E:=λh=>DH ⟨h1,h⟩
     all_goals
      go_wp2;exact bp (v:=.agg #[Z (T (Q g 0 U)) R.length c']) (by simp[results,results132,go_sem,r0]) rfl ⟨_,_,_,_,rfl,HE,BE⟩
