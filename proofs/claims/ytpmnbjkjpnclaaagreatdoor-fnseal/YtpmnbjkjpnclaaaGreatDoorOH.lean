import Derived.Test.YtpmnbjkjpnclaaaGreatDoorPG
import Derived.Test.YtpmnbjkjpnclaaaGreatDoorRP
import Derived.Test.YtpmnbjkjpnclaaaGreatDoorRH
import Derived.Test.YtpmnbjkjpnclaaaGreatDoorQE
import Derived.Deep.CutBlock
set_option maxRecDepth 100000
set_option maxHeartbeats 8000000
open Go renaming Addr.mk->Q,Value.slice->Z,Value.string->U,Value.int->N,Value.bool->ZD,Value.agg->ZH,Obj.cells->J,IntKind.i64->I,World->M,Value->ZC,World.cell?->A
open Option renaming none->Y,some->T
open Bool renaming false->ZA,true->ZG
namespace Go.Proofs.YtpmnbjkjpnclaaaGreatDoor.Vp
open Tryz RowKit Ca
variable {w W W':M}{X c:Nat}{z:Nat × Nat}{L:List Link}{a:Option Addr}{R:List DR}
def GP (r:DR):Prop:=∃nm tx,r=jE nm tx 1/\nm.size<=5000/\tx.size<=1970
structure L6S (w:M)(X ZK:Nat)(W:M)(ga:Nat)(a:Option Addr)(c:Nat)(D:List DR)(al:Option Addr)(cl:Nat)(L:List Link):Prop where
 rs:W.heap[w.heap.size]?=T (J #[Z Y 0 0] 37 (0,0))
 bx:W.heap[X]?=T (J #[Z a D.length c] 37 (0,0))
 rt:W.heap[ZK]?=T (J #[U ⟨#[114]⟩,N I 3,N I 0,U ⟨#[]⟩,Z (T (Q ga 0 Y)) 1 1,Z al L.length cl] 46 (0,0))
 i:W.ownsRow (ZK+1) 46 6 (Z a D.length c) D.length (D.flatMap ddV)
 H:W.ownsRow (w.heap.size+1) 151 3 (Z (T (Q ga 0 Y)) 1 1) 1 [N I 15,U ⟨#[]⟩,N I 0]
 V:W.ownsRow (ZK+1) 91 4 (Z al L.length cl) L.length (L.flatMap cQ)
 bare:∀r∈D,GP r
 lf:∀l∈L,l.e.size<=5000
 lo:w.heap.size<X/\X<ZK
 bl:Below w.heap.size w W
section
variable {w W W':M}{X ZK ga c c' cl:Nat}{a a' al:Option Addr}{D:List DR}{L:List Link}{r:DR}{l:Link}
theorem L6S.aa (h:L6S w X ZK W ga a c D al cl L)(hb:Below W.heap.size W W'):L6S w X ZK W' ga a c D al cl L :=
 ⟨(hb.block _ (ag h.rs)).trans h.rs,(hb.block _ (ag h.bx)).trans h.bx,(hb.block _ (ag h.rt)).trans h.rt,own_below h.i hb ly,own_below h.H hb ly,own_below h.V hb ly,h.bare,h.lf,h.lo,h.bl.trans (hb.mono h.bl.size)⟩
theorem iP{W:M}{k:Nat}{e b:TypeId}{c:Array ZC}(h:OfTy W k e)(f:W.heap[k]?=T (J c b z)):e=b:=by obtain⟨c1,z1,h1⟩:=h;rw[f] at h1;simp at h1;exact h1.2.1.symm
theorem rV{w W f V:M}{X j b sz n m c' s:Nat}{h tb:TypeId}{v:ZC}{C r:List ZC}{g:Array ZC}(c:Below w.heap.size w W)(i:Below W.heap.size W f)(y:f.ownsRow b h sz v n C)(o:f.grownBy V v.ownBlock)(q:V.ownsRow b h sz (Z (T (Q s 0 Y)) m c') m r)(hb:w.heap.size<=b)(hX:W.heap[X]?=T (J g tb z))(l:h≠tb)(t:w.heap.size<=X):V.heap[X]?=T (J g tb z)/\∀u,(∀k,k<W.heap.size->T k≠v.ownBlock->k≠X->(V.setCell (Q X j Y) u).heap[k]?=W.heap[k]?)/\(V.setCell (Q X j Y) u).ownsRow b h sz (Z (T (Q s 0 Y)) m c') m r/\Below w.heap.size w (V.setCell (Q X j Y) u):=by
 have hz:=i.size;have B:=ag hX;have h1:f.heap[X]?=T (J g tb z):=(i.block X B).trans hX;have h2:V.heap[X]?=T (J g tb z):=(o.block X (by omega) (λe=>l (iP (bu y X e.symm) h1))).trans h1;refine⟨h2,λu=>⟨λk x ZS E=>(qh V (Q X j Y) u k E).trans ((o.block k (by omega) ZS).trans (i.block k x)),bE q λk x D=>qh V (Q X j Y) u k (λe=>?_),?_⟩⟩;{have e:k=X:=e;subst e;exact l (iP D h2)};{exact((c.trans (i.mono c.size)).trans (bg (dB w.heap.size f) o (p7 c.size hz) (λk e=>p7 hb (y.lt k e).1))).setCell (p:=(Q X j Y)) t u}
theorem L6S.far (h:L6S w X ZK W ga a c D al cl L)(keep:∀k,k<W.heap.size->T k≠(Value.slice a D.length c).ownBlock->k≠X->W'.heap[k]?=W.heap[k]?):(∀k,k<=ZK->k≠X->W'.heap[k]?=W.heap[k]?)/\∀k e,OfTy W k e->e≠46->e≠37->W'.heap[k]?=W.heap[k]?:=by refine⟨λk b hX=>keep k (Nat.lt_of_le_of_lt b (ag h.rt)) (λe=>by have:=(h.i.lt k e.symm).1;have:=h.lo;omega) hX,λk e b h1 h2=>?_⟩;obtain⟨c1,z1,g⟩:=b;refine keep k (ag g) (λf=>h1 (iP (bu h.i k f.symm) g).symm) (λf=>?_);subst f;exact h2 (iP ⟨_,_,h.bx⟩ g).symm
theorem L6S.add (h:L6S w X ZK W ga a c D al cl L)(keep:∀k,k<W.heap.size->T k≠(Value.slice a D.length c).ownBlock->k≠X->W'.heap[k]?=W.heap[k]?)(j:W'.heap[X]?=T (J #[Z a' (D.length+1) c'] 37 (0,0)))
  (g:W'.ownsRow (ZK+1) 46 6 (Z a' (D.length+1) c') (D.length+1) (D.flatMap ddV++ddV r)) (m:GP r) (hb:Below w.heap.size w W'):L6S w X ZK W' ga a' c' (D++[r]) al cl L:=by
 have hlo:=h.lo;obtain⟨low,f⟩:=h.far keep;have l:(D++[r]).length=D.length+1:=by simp
 refine⟨(low _ (by omega) (by omega)).trans h.rs,by rw[l];exact j,(low ZK ly (by omega)).trans h.rt,?_,bE h.H λk n i=>f k _ i (by decide) (by decide),bE h.V λk n i=>f k _ i (by decide) (by decide),λx b=>?_,h.lf,h.lo,hb⟩;{rw[l,BO];simpa using g};{rcases p8.1 b with b|b;{exact h.bare x b};{rw[nD.1 b];exact m}}
theorem L6S.lk (h:L6S w X ZK W ga a c D al cl L)(keep:∀k,k<W.heap.size->T k≠(Value.slice al L.length cl).ownBlock->k≠ZK->W'.heap[k]?=W.heap[k]?)
  (o:W'.heap[ZK]?=T (J #[U ⟨#[114]⟩,N I 3,N I 0,U ⟨#[]⟩,Z (T (Q ga 0 Y)) 1 1,Z a' (L.length+1) c'] 46 (0,0)))
  (j:W'.ownsRow (ZK+1) 91 4 (Z a' (L.length+1) c') (L.length+1) (L.flatMap cQ++cQ l)) (q:l.e.size<=5000) (hb:Below w.heap.size w W'):L6S w X ZK W' ga a c D a' c' (L++[l]):=by
 have n:=h.lo;have low:∀k,k<ZK->W'.heap[k]?=W.heap[k]?:=λk b=>keep k (Nat.lt_trans b (ag h.rt)) (λe=>by have:=(h.V.lt k e.symm).1;omega) (by omega);have i:∀k e,OfTy W k e->e≠91->k≠ZK->W'.heap[k]?=W.heap[k]?:=λk e b h1 h2=>by obtain⟨c1,z1,p⟩:=b;exact keep k (ag p) (λr=>h1 (iP (bu h.V k r.symm) p).symm) h2
 have m:(L++[l]).length=L.length+1:=by simp
 refine⟨(low _ (by omega)).trans h.rs,(low X n.2).trans h.bx,by rw[m];exact o,bE h.i λk b g=>i k _ g (by decide) (by have:=(h.i.lt k b).1;omega),bE h.H λk b g=>i k _ g (by decide) (λe=>by subst e;exact absurd (iP g h.rt) (by decide)),?_,h.bare,λx f=>?_,h.lo,hb⟩;{rw[m,BO];simpa using j};{rcases p8.1 f with f|f;{exact h.lf x f};{rw[nD.1 f];exact q}}
end
def oh (L:List Link):Deed:=⟨⟨#[114]⟩,3,0,⟨#[]⟩,1,λ_=>⟨15,⟨#[]⟩,0⟩,L.length,λj=>L.getD j jU⟩
theorem DG (L:List Link):bq (λj=>L.getD j jU) L.length=L.flatMap cQ:=by unfold bq;congr 1;refine List.ext_getElem (by simp) λi h1 h2=>?_;simp[gq h2]
theorem Gt (h:∀l∈L,l.e.size<=5000)(hl:L.length<=150):FitD (oh L) :=
 ⟨by show(⟨#[114]⟩:ByteArray).size<=5000;decide,by show(⟨#[]⟩:ByteArray).size<=5000;decide,by show 1<=300;omega,λj _=>by show(⟨#[]⟩:ByteArray).size<=5000;decide,by show L.length<=300;omega,λj c=>by
  have b:j<L.length:=c;show(L.getD j jU).e.size<=5000;rw[IA,gq b]
  exact h _ (gz b)⟩
structure L6T (w:M)(X:Nat)(W:M)(a:Option Addr)(c:Nat)(R:List DR):Prop where
 rs:W.heap[w.heap.size]?=T (J #[Z Y 0 0] 37 (0,0))
 bx:W.heap[X]?=T (J #[Z a R.length c] 37 (0,0))
 row:DRw W (w.heap.size+1) (Z a R.length c) R
 ak:∀r∈R,FitD r.1
 lo:w.heap.size<X
 len:R.length=151
 bl:Below w.heap.size w W
theorem L6T.aa (h:L6T w X W a c R)(hb:Below W.heap.size W W'):L6T w X W' a c R :=
 ⟨(hb.block _ (ag h.rs)).trans h.rs,(hb.block _ (ag h.bx)).trans h.bx,h.row.aa hb ly,h.ak,h.lo,h.len,h.bl.trans (hb.mono h.bl.size)⟩
theorem L6T.txt{g k:Nat}{r:DR}{tx:ByteArray}(h:L6T w X W (T (Q g 0 Y)) c R)(j:R[k]?=T r)(m:tx.size<=5000):L6T w X (W.setCell (Q g (k*6+3) Y) (U tx)) (T (Q g 0 Y)) c (R.set k ({ r.1 with B:=tx },r.2)):=by
 have i:=LD j;have hg:=h.row.i.lt g rfl;have f:(R.set k ({ r.1 with B:=tx },r.2)).length=R.length:=LB;have l:g≠X:=λe=>by subst e;exact absurd (iP (bu h.row.i g rfl) h.bx) (by decide)
 refine⟨(qh W (Q g _ Y) _ _ (by show w.heap.size≠g;omega)).trans h.rs,?_,?_,λx n=>?_,h.lo,f.trans h.len,h.bl.setCell (p:=(Q g _ Y)) (by show w.heap.size<=g;omega) _⟩;{rw[f];exact(qh W (Q g _ Y) _ _ (WS l)).trans h.bx};{rw[f];exact h.row.fld rfl j (by omega) rfl ((h.row.sub r i).same _ rfl rfl rfl rfl)};{refine lG (P:=FitD) h.ak ?_ x n;have b:=h.ak r i;exact⟨b.nm,m,b.an,b.asz,b.ln,b.lsz⟩}
theorem L6S.fin{ZK ga c' cl:Nat}{a' al:Option Addr}{D:List DR}(h:L6S w X ZK W ga a c D al cl L)(keep:∀k,k<W.heap.size->T k≠(Value.slice a D.length c).ownBlock->k≠X->W'.heap[k]?=W.heap[k]?)(m:W'.heap[X]?=T (J #[Z a' (D.length+1) c'] 37 (0,0)))
  (l:W'.ownsRow (ZK+1) 46 6 (Z a' (D.length+1) c') (D.length+1) (D.flatMap ddV++[U ⟨#[114]⟩,N I 3,N I 0,U ⟨#[]⟩,Z (T (Q ga 0 Y)) 1 1,Z al L.length cl])) (p:D.length=150) (hL:L.length=150) (hb:Below w.heap.size w W'):L6T w X W' a' c' (D++[(oh L,Z (T (Q ga 0 Y)) 1 1,Z al L.length cl)]):=by
 have n:=h.lo;obtain⟨low,f⟩:=h.far keep;have i:(D++[(oh L,Value.slice (T (Q ga 0 Y)) 1 1,Value.slice al L.length cl)]).length=D.length+1:=by simp
 refine⟨(low _ (by omega) (by omega)).trans h.rs,by rw[i];exact m,⟨?_,λx b=>?_⟩,λx b=>?_,n.1,by rw[i,p],hb⟩;{rw[i,BO];have h1:=aB l (show w.heap.size+1<=ZK+1 by omega);simpa[ddV,oh] using h1};{rcases p8.1 b with b|b;{obtain⟨nm,tx,rfl,-,-⟩:=h.bare x b;exact vN _ _ _ _ _};{rw[nD.1 b];refine⟨bE h.H λk o g=>f k _ g (by decide) (by decide),?_⟩;have h2:=aB (bE h.V λk o g=>f k _ g (by decide) (by decide)) (show w.heap.size+1<=ZK+1 by omega);show W'.ownsRow _ _ _ _ L.length (bq (λj=>L.getD j jU) L.length);rw[DG];exact h2}};{rcases p8.1 b with b|b;{obtain⟨nm,tx,rfl,h1,h2⟩:=h.bare x b;exact(pD (K:=0) 1 h1 (by omega)).d (by omega)};{rw[nD.1 b];exact Gt h.lf (by omega)}}
def DFa (w:M)(e:Ending)(b:M):Prop:=∃(a:Option Addr) (n c:Nat) (f:Nat->Deed),e=.returned (ZH #[Z a n c])/\HAc w.heap.size b a n c f/\Below w.heap.size w b
theorem tq (f:Nat->Deed)(n:Nat):((⟨(bG f n).toArray⟩:ByteArray).size:Int)<=300000:=by have h:=lY (rfl:bG f n=bG f n);show(((bG f n).toArray).size:Int)<=300000;rw[CV];omega
theorem AA (E:Int)(hm0:-1<=E)(ro:E<=1)(w:M):Calls Tryz.prog 132 #[N I E] w λe w'=>DFa w e w':=by
 obtain⟨DS,hi,Fk,Fm,GS⟩:=OB fm;obtain⟨Lb,hj,Lc,Id,KZ⟩:=OB iC;obtain⟨W0,ph⟩:∃W:M,(w.alloc (J #[Z Y 0 0] 37)).alloc (J #[Z Y 0 0] 37)=W:=⟨_,rfl⟩
 obtain⟨A0,K0,K1,Lh⟩:=nb2 ph;have Bk:=ae ph;clear ph;go_enter func132,ntmps132;go_wp2_with fail;rw[Bk.out];clear Bk;refine(aW 15 W0).mono ?_;rintro e S ⟨rfl,ZL⟩;have La:=ZL.size;obtain⟨W1,sm⟩:∃W:M,(S.alloc (J #[N I 15,U ⟨#[]⟩,N I 0] 151)).alloc (J #[U ⟨#[114]⟩,N I 3,N I 0,U ⟨#[]⟩,Z (T (Q S.heap.size 0 Y)) 1 1,Z Y 0 0] 46)=W:=⟨_,rfl⟩
 obtain⟨A1,K2,K3,Ld⟩:=nb2 sm;have ur:=ae sm;have dg:=ZL.trans (A1.out.mono ZL.size);have S1:Hid (L6S w (w.heap.size+1) (S.heap.size+1) W1 S.heap.size Y 0 [] Y 0 []):=⟨(dg.block _ (by omega)).trans K0,(dg.block _ (by omega)).trans K1,K3,A9 _ _ _ _,⟨rfl,.inr ⟨S.heap.size,1,_,rfl,by omega,K2,n6 _,by unfold maxLen;omega,rfl,rfl⟩⟩,A9 _ _ _ _,λr x=>(by cases x),λr x=>(by cases x),⟨by omega,by omega⟩,A0.out.trans (dg.mono (by omega))⟩
 clear sm A0 K0 K1 K2 K3 A1 ZL dg Lh Ld La;go_upto_region 3 with fail;rw[ur.out];clear ur;generalize w.heap.size+1=X at S1 ⊢;generalize S.heap.size+1=ZK at S1 ⊢;generalize S.heap.size=ga at S1 ⊢;go_wp2_with fail;go_loopw [5] (λi wr=>∃(k:Nat) (a:Option Addr) (c:Nat) (D:List DR) (al:Option Addr) (cl:Nat) (L:List Link),i=N I (k:Int)/\k<=150/\Hid (D.length=k/\L.length=k)/\Hid (L6S w X ZK wr ga a c D al cl L)) (λi _=>(150 - intOf i).toNat);case atStart=>exact⟨0,_,_,_,_,_,_,rfl,by omega,⟨rfl,rfl⟩,S1⟩
 case round =>
  clear S1;obtain⟨k,a,c,D,al,cl,L,rfl,hk,H,C⟩:=hrel;have th:=QC C.lo.1;have Lp:=p7 th (QC C.lo.2);have n9:w.heap.size<=ZK+1:=by omega
  by_cases hk9:(k:Int)<150
  ·obtain⟨Lo,q1,q2,q3,q4,q5,q6,r1,r2,r3,s1,s2,s3⟩:=Jg k (by omega);have A3:=ae ((q9 wr).alloc ly (J #[N .u8 (48+(k:Int) / 100),N .u8 (48+(k:Int) / 10 % 10),N .u8 (48+(k:Int) % 10)] 5));have ld:(⟨#[115]⟩++⟨#[dig (k / 100),dig (k / 10 % 10),dig (k % 10)]⟩:ByteArray).size<=5000:=by simp only[IH];show 1+3<=5000;omega
   go_upto_region 7 with fail;clear Lo q1 q2 q3 q4 q5 q6 r1 r2 r3 s1 s2 s3;generalize (⟨#[115]⟩++⟨#[dig (k / 100),dig (k / 10 % 10),dig (k % 10)]⟩:ByteArray)=nm at ld ⊢;have S3:=ae (C.aa A3);clear C;generalize World.alloc wr _=W3 at A3 S3 ⊢;clear A3;have Ll:D.length<150:=by have:=H.out.1;omega
   have Le:L.length<150:=by have:=H.out.2;omega
   go_wp2_with fail;refine aD (λV=>A V (Q X 0 Y)=T (Z a D.length c)) 8 (by kernel_rfl) ?_;have ZO:=ae (S3.aa br.drew);clear S3;generalize W3.drew=v at ZO ⊢;have y:Hid (A v (Q X 0 Y)=T (Z a D.length c)):=by show _=_;simp[World.cell?,ZO.bx]
   iterate 3
    refine aJ 0 (v:=?_) rfl rfl (by kernel_rfl) (λ_ _ _ h=>h) rfl ?_ y ?_;rotate_left
    ·(intro wz s0;go_simp)
     (try with_reducible rfl)
    (try simp only[Act.put,nzL])
   refine ah (i:=3) rfl (by kernel_rfl) λK b=>?_;go_simp;go_at_call 74;obtain⟨m1,ro⟩:∃m1:Nat,(1970:Int)=(m1:Int):=⟨1970,rfl⟩
   rw[ro];refine(eQ ⟨#[120]⟩ m1 _ (by show 1*m1<=4000;omega) (by omega)).mono ?_;rintro e v6 ⟨tx,rfl,ht,hw⟩;rw[hw];have DE:tx.size<=1970:=p7 ht (by show 1*m1<=1970;omega);clear ht hw ro;refine b _ _ (λ_=>y) ?_;clear b K
   (try simp only[Act.put,nzL])
   refine ah (i:=4) rfl (by kernel_rfl) λK b=>?_;go_simp;refine b _ _ (λ_=>y) ?_;clear b K
   (try simp only[Act.put,nzL])
   have F:=ae ((q9 v).alloc ly (J #[U nm,N I 1,N I 0,U tx,Z Y 0 0,Z Y 0 0] 46));have NC:=ae (dA v #[U nm,N I 1,N I 0,U tx,Z Y 0 0,Z Y 0 0] 46);have DQ:Hid ((v.alloc (J #[U nm,N I 1,N I 0,U tx,Z Y 0 0,Z Y 0 0] 46)).cell? (Q X 0 Y)=T (Z a D.length c)):=(cq (a:=(Q X 0 Y)) (F.block X (ag ZO.bx))).trans y;clear y;refine ah (i:=5) rfl (by kernel_rfl) λK b=>?_;go_simp;refine b _ _ (λ_=>DQ) ?_;clear b K DQ
   (try simp only[Act.put,nzL])
   have ZN:=ae (own_below ZO.i F ly);have aq:=ag ZO.rt;have ZJ:=F.size;generalize World.alloc v _=WC at F NC ZN ZJ ⊢;refine ah (i:=6) rfl (by kernel_rfl) λK b=>?_;refine aG rfl (.tmp 36) (.tmp 40) 35 rfl (ZK+1) 46 DS (ZH #[U ⟨#[]⟩,N I 0,N I 0,U ⟨#[]⟩,Z Y 0 0,Z Y 0 0]) 6 96 PF hi Fk Fm GS rfl (by decide) (Z a D.length c) D.length (D.flatMap ddV) (by simp[Act.eval]) ZN (Q v.heap.size 0 Y) 1 1 [U nm,N I 1,N I 0,U tx,Z Y 0 0,Z Y 0 0] (by simp[Act.eval]) rfl NC (by simp[Value.oneCell']) (by unfold maxLen;omega) (by omega) (by omega) ?_;intro v' w6 f o Lf;obtain⟨g',c',rfl⟩:=cC f (by omega);obtain⟨P,ZR⟩:=rV (j:=0) ZO.bl F ZN o f n9 ZO.bx (by decide) th;have ZM:=ae (ZO.add (r:=jE nm tx 1) (ZR (Z (T (Q g' 0 Y)) (D.length+1) c')).1 (bX P _) (ZR _).2.1 ⟨nm,tx,rfl,ld,DE⟩ (ZR _).2.2);have z0:A w6 (Q X 0 Y)=T (Z a D.length c):=by simp[World.cell?,P]
   have z1:w6.frozen? (Q X 0 Y)=ZA:=by simp[World.frozen?,P]
   have z2:=ag P;have y:=ae z0;clear ZR f o Lf P ZO ZN NC F ZJ aq;refine b _ _ (λ_=>y) ?_;clear b K
   (try simp only[Act.put,nzL])
   refine ah (i:=7) rfl (by kernel_rfl) λK b=>?_;go_simp;refine b _ _ (λ_=>y) ?_;clear b K
   (try simp only[Act.put,nzL])
   refine ah (i:=8) rfl (by kernel_rfl) λK b=>?_;go_simp;refine b _ _ (λh=>absurd rfl h) ?_;clear b K y
   (try simp only[Act.put,nzL])
   refine aX (by kernel_rfl) ?_ _;clear z0 z1 z2;generalize World.setCell w6 _ _=W9 at ZM ⊢;have B:=ZM.rt;have aq:=ag B;have t0:A W9 (Q ZK 5 Y)=T (Z al L.length cl):=by simp[World.cell?,B]
   have BL:=ae ((q9 W9).alloc ly (J #[U nm,ZD ZG,ZD ZA,N I (k:Int)] 91));have OL:=ae (own_below ZM.V BL ly);have hzL:=BL.size;clear B;go_wp2_with (at_builtin;refine bD _ rfl (.tmp 44) (.tmp 48) 44 rfl (ZK+1) 91 Lb (ZH #[U ⟨#[]⟩,ZD ZA,ZD ZA,N I 0]) 4 32 Q2 hj Lc Id KZ rfl (by decide) (Z al L.length cl) L.length (L.flatMap cQ) (by simp[Act.eval]) OL (Q W9.heap.size 0 Y) 1 1 [U nm,ZD ZG,ZD ZA,N I (k:Int)] (by simp[Act.eval]) rfl (dA W9 #[U nm,ZD ZG,ZD ZA,N I (k:Int)] 91) (by simp[Value.oneCell']) (by unfold maxLen;omega) (by omega) (by omega) ?_;intro v3 w3 f o la;obtain⟨g3,c3,rfl⟩:=cC f (by omega);obtain⟨t,AQ⟩:=rV (j:=5) ZM.bl BL OL o f n9 ZM.rt (by decide) Lp;have S6:=ae (ZM.lk (l:=⟨nm,ZG,ZA,(k:Int)⟩) (AQ (Z (T (Q g3 0 Y)) (L.length+1) c3)).1 (bX t _) (AQ _).2.1 ld (AQ _).2.2);have u0:A w3 (Q ZK 5 Y)=T (Z al L.length cl):=(by simp[World.cell?,t]);have u1:w3.frozen? (Q ZK 5 Y)=ZA:=(by simp[World.frozen?,t]);have u2:=ag t;clear AQ f o la t t0 ZM OL BL);refine⟨⟨k+1,_,_,_,_,_,_,by go_num,by omega,⟨?_,?_⟩,S6⟩,by simp[intOf];omega⟩;{rw[cM,H.out.1];rfl};{rw[cM,H.out.2];rfl}
  ·have Ll:D.length<=150:=by have:=H.out.1;omega
   have Le:L.length<=150:=by have:=H.out.2;omega
   have G:=C.bx;have B:=C.rt;have x0:A wr (Q X 0 Y)=T (Z a D.length c):=by simp[World.cell?,G]
   have t0:A wr (Q ZK 0 Y)=T (U ⟨#[114]⟩):=by simp[World.cell?,B]
   have t1:A wr (Q ZK 1 Y)=T (N I 3):=by simp[World.cell?,B]
   have t2:A wr (Q ZK 2 Y)=T (N I 0):=by simp[World.cell?,B]
   have t3:A wr (Q ZK 3 Y)=T (U ⟨#[]⟩):=by simp[World.cell?,B]
   have t4:A wr (Q ZK 4 Y)=T (Z (T (Q ga 0 Y)) 1 1):=by simp[World.cell?,B]
   have t5:A wr (Q ZK 5 Y)=T (Z al L.length cl):=by simp[World.cell?,B]
   have ZQ:=ag G;have aq:=ag B;have F:=ae ((q9 wr).alloc ly (J #[U ⟨#[114]⟩,N I 3,N I 0,U ⟨#[]⟩,Z (T (Q ga 0 Y)) 1 1,Z al L.length cl] 46));have ZN:=ae (own_below C.i F ly);have ZJ:=F.size;clear G B;go_upto_region 10 with (at_builtin;refine bD _ rfl (.tmp 52) (.tmp 54) 35 rfl (ZK+1) 46 DS (ZH #[U ⟨#[]⟩,N I 0,N I 0,U ⟨#[]⟩,Z Y 0 0,Z Y 0 0]) 6 96 PF hi Fk Fm GS rfl (by decide) (Z a D.length c) D.length (D.flatMap ddV) (by simp[Act.eval]) ZN (Q wr.heap.size 0 Y) 1 1 [U ⟨#[114]⟩,N I 3,N I 0,U ⟨#[]⟩,Z (T (Q ga 0 Y)) 1 1,Z al L.length cl] (by simp[Act.eval]) rfl (dA wr #[U ⟨#[114]⟩,N I 3,N I 0,U ⟨#[]⟩,Z (T (Q ga 0 Y)) 1 1,Z al L.length cl] 46) (by simp[Value.oneCell']) (by unfold maxLen;omega) (by omega) (by omega) ?_;intro v3 w3 f o la;obtain⟨g,c',rfl⟩:=cC f (by omega);obtain⟨t,ZR⟩:=rV (j:=0) C.bl F ZN o f n9 C.bx (by decide) th;have ZP:=ae (C.fin (ZR (Z (T (Q g 0 Y)) (D.length+1) c')).1 (bX t _) (ZR _).2.1 (by have:=H.out.1;omega) (by have:=H.out.2;omega) (ZR _).2.2);have u0:A w3 (Q X 0 Y)=T (Z a D.length c):=(by simp[World.cell?,t]);have u1:w3.frozen? (Q X 0 Y)=ZA:=(by simp[World.frozen?,t]);have u2:=ag t;clear ZR f o la t ZN F x0 t0 t1 t2 t3 t4 t5);have ZS:Hid (∀j r,j<150->(D++[(oh L,Value.slice (T (Q ga 0 Y)) 1 1,Value.slice al L.length cl)])[j]?=T r->r.1.B.size<=1970):=λj r hj x=>by rw[OP (by have:=H.out.1;omega)] at x;obtain⟨nm,tx,rfl,-,h2⟩:=C.bare r (LD x);exact h2
   clear C u0 u1 u2 ZQ aq H ZJ;generalize World.setCell w3 _ _=W3 at ZP ⊢;generalize D++[(oh L,Value.slice (T (Q ga 0 Y)) 1 1,Value.slice al L.length cl)]=O at ZP ZS;have G:=ZP.bx;have x0:A W3 (Q X 0 Y)=T (Z (T (Q g 0 Y)) O.length c'):=by simp[World.cell?,G]
   have ZQ:=ag G;have Lg:=ZP.len;have FA:=ae (ij (T (Q g 0 Y)) O.length c' (dF (O.map (·.1))) W3 (by omega) ZP.row.am (λi hi=>by obtain⟨r,x,hm⟩:=cZ hi;rw[gv x];exact(ZP.ak r hm).fits) (λi hi=>by obtain⟨r,x,hm⟩:=cZ hi;rw[gv x];exact(ZP.ak r hm).sized));have DH:=tq (dF (O.map (·.1))) O.length;generalize (⟨(bG (dF (O.map (·.1))) O.length).toArray⟩:ByteArray)=fs at FA DH;clear G Lg;go_wp2_with fail;refine FA.out.mono ?_;rintro e w4 ⟨rfl,Fd⟩;have T4:=ae (ZP.aa Fd);clear Fd ZP FA x0 ZQ;go_wp2_with fail;go_loopw [7,8] (λn i wr=>∃(m j:Nat) (R:List DR),n=N I (m:Int)/\i=N I (j:Int)/\m<=300001/\j<=150/\Hid (L6T w X wr (T (Q g 0 Y)) c' R)/\Hid (∀q r,j<=q->q<150->R[q]?=T r->r.1.B.size<=1970)) (λ_ i _=>(150 - intOf i).toNat);case atStart=>exact⟨fs.size,0,O,rfl,rfl,by omega,by omega,T4,λq r _ hq x=>ZS.out q r hq x⟩
   case round =>
    clear T4 ZS DH;obtain⟨m,j,R,rfl,rfl,hm,hj,z,ZS⟩:=hrel;have G:=z.bx;have x0:A wr (Q X 0 Y)=T (Z (T (Q g 0 Y)) R.length c'):=by simp[World.cell?,G]
    have ZQ:=ag G;clear G;have Hx:IntKind.i64.wrap (300000+E)=300000+E:=by rw[p9];omega
    by_cases Fn:(j:Int)<150/\(m:Int)<300000+E
    ·obtain⟨h1,h2⟩:=Fn;have Lj:IntKind.i64.wrap (300000+E - (m:Int))=300000+E - (m:Int):=by rw[p9];omega
     have Ln:R.length=151:=z.len;have Li:j<R.length:=by omega
     obtain⟨r,x,JT⟩:=cZ Li;have HR:=ae x;have DE:=ZS.out j r ly (by omega) x;clear x JT;go_upto_if 75 with fail;go_cut [9] (λs wx=>∃v:Nat,s=N I (v:Int)/\v<=30/\(m:Int)+v<=300001/\wx=wr);case first =>
      by_cases h3:30<300000+E - (m:Int);{go_wp2;go_meet;exact⟨30,rfl,by omega,by omega,rfl⟩};{go_wp2;go_meet;exact⟨(300000+E - (m:Int)).toNat,by rw[UT (by omega)],by omega,by omega,rfl⟩}
     case rest =>
     obtain⟨v,rfl,hv,hmv,qr⟩:=hcut;subst qr;generalize qr:wc=wx at z x0 ZQ ⊢;clear qr;have c0:=(cR z.row.i HR 3 (by omega) (u:=U r.1.B) rfl)
     have HC:=ae c0.1;have HZ:=ae c0.2;have At:=(z.row.i.lt g rfl).2;have hjI:(j:Int)<(R.length:Int):=by omega
     have hwmv:IntKind.i64.wrap ((m:Int)+v)=(m:Int)+v:=by rw[p9];omega
     clear c0 Lj Hx x0 ZQ Ln;go_wp2_with fail;refine aD (λV=>A V (Q X 0 Y)=T (Z (T (Q g 0 Y)) R.length c')/\A V (Q g (j*6+3) Y)=T (U r.1.B)) 14 (by kernel_rfl) ?_;have T6:=ae (z.aa br.drew);have bt:Hid (wx.drew.cell? (Q g (j*6+3) Y)=T (U r.1.B)):=HC;have fd:Hid (wx.drew.frozen? (Q g (j*6+3) Y)=ZA):=HZ;have mv:g<wx.drew.heap.size:=At;clear z HC HZ At;generalize wx.drew=v4 at T6 bt fd mv ⊢;have y:Hid (A v4 (Q X 0 Y)=T (Z (T (Q g 0 Y)) R.length c')/\A v4 (Q g (j*6+3) Y)=T (U r.1.B)):=⟨by simp[World.cell?,T6.bx],bt⟩
     iterate 10
      refine aJ 0 (v:=?_) rfl rfl (by kernel_rfl) (λ_ _ _ h=>h) rfl ?_ y ?_;rotate_left
      ·(rintro wz ⟨s0,s1⟩;go_simp)
       (try with_reducible rfl)
      (try simp only[Act.put,nzL])
     refine ah (i:=10) rfl (by kernel_rfl) λK b=>?_;go_simp;go_at_call 74;refine(eQ ⟨#[121]⟩ v _ (by show 1*v<=4000;omega) (by omega)).mono ?_;rintro e v6 ⟨ty,rfl,ht,hw⟩;rw[hw];have hty:ty.size<=30:=p7 ht (by show 1*v<=30;omega);have hcc:¬ 9223372036854775807<r.1.B.size+ty.size:=by omega
     clear ht hw;refine b _ _ (λ_=>y) ?_;clear b K
     (try simp only[Act.put,nzL])
     iterate 3
      refine cD 11 rfl rfl (by kernel_rfl) λK b=>?_;go_simp;refine b _ _ (λ_=>y) ?_;clear b K
      (try simp only[Act.put,nzL])
     have d0:=bt.out;have d1:=fd.out;have T7:=ae (T6.txt (tx:=r.1.B++ty) HR (by rw[IH];omega));have KV:Hid (∀q r',j+1<=q->q<150->(R.set j ({ r.1 with B:=r.1.B++ty },r.2))[q]?=T r'->r'.1.B.size<=1970):=λq r' h5 h6 h7=>by rw[QU (by omega)] at h7;exact ZS.out q r' (by omega) h6 h7
     refine ah (i:=14) rfl (by kernel_rfl) λK b=>?_;go_simp;refine b _ _ (λh=>absurd rfl h) ?_;clear b K y
     (try simp only[Act.put,nzL])
     refine aX (by kernel_rfl) ?_ _;clear d0 d1 bt fd T6 ZS mv;generalize World.setCell v4 _ _=W7 at T7 ⊢;go_wp2;exact⟨⟨m+v,j+1,_,by go_num,by go_num,by omega,by omega,T7,KV⟩,by simp[intOf];omega⟩
    ·have Lm:R.length<=50000:=by have:=z.len;omega
     have HE:=ae ((vL (z.row.agr (rE (j:=0) (AI w.heap.size) (Z (T (Q g 0 Y)) R.length c'))) rfl z.ak Lm).mono (F6 w.heap.size));have BE:=ae (z.bl.setCell (p:=(Q w.heap.size 0 Y)) ly (Z (T (Q g 0 Y)) R.length c'));have kr:=z.rs;have r0:A wr (Q w.heap.size 0 Y)=T (Z Y 0 0):=by simp[World.cell?,kr]
     have q0:wr.frozen? (Q w.heap.size 0 Y)=ZA:=by simp[World.frozen?,kr]
     have l0:=ag kr;clear kr z ZS;by_cases h1:(j:Int)<150;case' pos=>have h2:¬ (m:Int)<300000+E:=λh=>Fn ⟨h1,h⟩
     all_goals
      go_wp2;exact bp (v:=ZH #[Z (T (Q g 0 Y)) R.length c']) (by simp[results,results132,go_sem,r0]) rfl ⟨_,_,_,_,rfl,HE,BE⟩
