import Derived.Test.YthkpcehepgmdgaaGreatDoorRB
import Derived.Test.YthkpcehepgmdgaaGreatDoorSR
set_option maxRecDepth 100000
set_option maxHeartbeats 8000000
open Go renaming Addr.mk->Q,Value.slice->Z,Value.string->U,Value.int->J,Value.agg->ZH,Obj.cells->N,IntKind.i64->I,World->G,Value->ZD,Ending.returned->ZG,World.heap->h,World.alloc->ZU,Proofs.Tryz.prog->Pg
open Option renaming none->Y,some->T
open Bool renaming false->ZB
open Array renaming size->A
open List renaming length->ZT
namespace Go.Proofs.YthkpcehepgmdgaaGreatDoor.Vp
open Tryz RowKit Ca
variable {W V:G}{b:Nat}{L:List TO}
def GT (W:G)(r:TO):Prop:=(∃g,r.2.1=T (Q g 0 Y)/\RowIns W g 0 r.1.l r.1.u/\TypeAt W g 90)/\r.1.l<=300/\∀j,j<r.1.l->(r.1.u j).s.size<=5000
structure TW (base:Nat)(W:G)(v:ZD)(L:List TO):Prop where
 y:W.ownsRow base 94 2 v (ZT L) (L.flatMap toV)
 u:∀r∈L,GT W r
theorem GT.ab{r:TO}(ZW:GT W r)(hz:A (h W)<=A (h V))(hb:∀g,TypeAt W g 90->g<A (h W)->V.heap[g]?=W.heap[g]?):GT V r:=by obtain⟨⟨g,e,h1,h2⟩,f⟩:=ZW;have b:=hb g h2 h1.1;exact⟨⟨g,e,h1.block hz b,h2.block b⟩,f⟩
theorem TW.aa{B:Nat}{v:ZD}(ZW:TW b W v L)(hb:Below B W V)(f:A (h W)<=B):TW b V v L :=
 ⟨own_below ZW.y hb f,λr i=>(ZW.u r i).ab hb.size λg _ hg=>hb.block g (by omega)⟩
theorem TW.app{v j:ZD}{M:List TO}(ZW:TW b W v L)(hM:∀r∈M,GT W r)(f:V.ownsRow b 94 2 j (ZT L+ZT M) (L.flatMap toV++M.flatMap toV))(i:W.grownBy V v.ownBlock):TW b V j (L++M):=by refine⟨by rw[gB,IH];exact f,λr l=>?_⟩;have h2:GT W r:=(n6.1 l).elim (ZW.u r) (hM r);exact h2.ab i.size λg n m=>i.block g m λe=>ew n (dC ZW.y g e.symm) (by decide) rfl
theorem jz{w:G}{g:Nat}{b:Array ZD}{t:TypeId}{z:Nat × Nat}(ZW:w.heap[g]?=T (N b t z)):∀j u,b.toList[j]?=T u->w.cell? (((Q g 0 Y):Addr).add j)=T u:=by intro j u f;rw[gA,E4,cell_of_row _ _ _ _ _ _ ZW];simpa using f
theorem wW (L:List TO):(L.flatMap toV).length=ZT L*2:=by
 induction L with
 |nil=>rfl
 |cons r L b=>rw[LI,gB,b,p6];show 2+_=_;omega
theorem wX (L:List TO):∀u∈L.flatMap toV,u.oneCell'=true:=by intro u f;obtain⟨x,_,b⟩:=MK.1 f;simp[toV] at b;rcases b with rfl|rfl<;>simp[Value.oneCell']
def sI (b:ByteArray):List Ins:=[⟨1,b,0⟩,⟨12,⟨#[]⟩,0⟩]
theorem pN (s:ByteArray)(w:G):Calls Pg 39 #[U s] w λe j=>∃g,e=ZG (Z (T (Q g 0 Y)) 2 2)/\j.ownsRow (A (h w)) 90 3 (Z (T (Q g 0 Y)) 2 2) 2 (bK (lsI (sI s)) 2)/\Below (A (h w)) w j:=by go_enter func39,ntmps39;go_wp2_with fail;refine(bi s _).mono ?_;rintro e w1 ⟨rfl,b⟩;go_wp2_with fail;refine(aT 12 _).mono ?_;rintro e i ⟨rfl,f⟩;have ZW:=ae (b.trans (f.mono b.size));clear b f;go_wp2;go_ret;exact⟨A (h i),rfl,⟨rfl,.inr ⟨A (h i),2,_,rfl,ZW.size,nD i _,j6 _,by unfold maxLen;omega,rfl,rfl⟩⟩,ZW.alloc ZW.size _⟩
theorem Dm (x y:Int)(a b:UInt8)(i:x=a.toNat)(m:y=b.toNat)(w:G)(g:Nat)(l:w.cell? (Q g 0 Y)=T (J .u8 x))(h1:w.cell? (Q g 1 Y)=T (J .u8 y)):(convert 22 9 (Z (T (Q g 0 Y)) 2 2)).run Pg w=.ok (U ⟨#[a,b]⟩) w:=by
 refine PH _ 22 9 5 (Q g 0 Y) 2 [a,b] MS MG LH ?_;intro j f;have f:j<2:=f;match j,f with
 |0,_=>simp[Addr.add,l,i]
 |1,_=>simp[Addr.add,h1,m]
 |k+2,ZW=>exact absurd ZW (by omega)
theorem Gr (i:Nat)(ZW:i<100):(∀(w:G) (g:Nat),w.cell? (Q g 0 Y)=T (J .u8 (48+(i:Int) / 10))->w.cell? (Q g 1 Y)=T (J .u8 (48+(i:Int) % 10))->(convert 22 9 (Z (T (Q g 0 Y)) 2 2)).run Pg w=.ok (U ⟨#[dig (i / 10),dig (i % 10)]⟩) w)/\IntKind.i64.wrap ((i:Int) / 10)=(i:Int) / 10/\IntKind.i64.wrap ((i:Int) % 10)=(i:Int) % 10/\(i:Int).tmod 10=(i:Int) % 10/\IntKind.i64.wrap (48+(i:Int) / 10)=48+(i:Int) / 10/\IntKind.i64.wrap (48+(i:Int) % 10)=48+(i:Int) % 10/\IntKind.u8.wrap (48+(i:Int) / 10)=48+(i:Int) / 10/\IntKind.u8.wrap (48+(i:Int) % 10)=48+(i:Int) % 10 :=
 ⟨Dm _ _ (dig (i / 10)) (dig (i % 10)) (by have:=digit (i / 10) (by omega);omega) (by have:=digit (i % 10) (by omega);omega),(by rw[nL];omega),(by rw[nL];omega),MQ (by omega),(by rw[nL];omega),(by rw[nL];omega),(by rw[PK];omega),(by rw[PK];omega)⟩
theorem rI (C:ByteArray)(n:Nat)(en:ByteArray)(h1:C.size<=10)(hn:n<=90)(he:en.size<=10)(w:G):Calls Pg 42 #[U C,J I n,U en] w λe w'=>∃a c L,e=ZG (Z a (ZT L) c)/\TW (A (h w)) w' (Z a (ZT L) c) L/\(ZT L)=n/\Below (A (h w)) w w':=by
 obtain⟨i0,gi,ex,aq,ph⟩:=jp;obtain⟨i1,ti,n8,bt,ld⟩:=KQ ez;have ZL:=ae ((q9 w).alloc ly (N #[] 94));have V:Hid (TW (A (h w)) (ZU w (N #[] 94)) (Z (T (Q (A (h w)) 0 Y)) 0 0) []):=⟨LK w #[] 0 ly (by unfold maxLen;omega) rfl,λr X=>absurd X nj⟩
 have hw2:IntKind.i64.wrap ((n:Int) - 1)=(n:Int) - 1:=by rw[nL];omega
 go_enter func42,ntmps42;go_wp2_with fail;generalize World.alloc w _=W0 at ZL V ⊢;go_loopw [7,8] (λv i wr=>∃(k:Nat) (L:List TO),i=J I k/\k<=n/\(ZT L)=k/\Hid (TW (A (h w)) wr v L)/\Hid (Below (A (h w)) w wr)) (λ_ i _=>n - (intOf i).toNat);case atStart=>exact⟨0,[],rfl,by omega,rfl,V,ZL⟩
 case round =>
  clear ZL V;obtain⟨k,L,rfl,hk,ZN,ZS,E⟩:=hrel;have HK:=ae ZN;have hL9:ZT L<=90:=by omega
  clear ZN;obtain⟨a5,c5,rfl⟩:=aF ZS.y;by_cases hlt:k<n
  ·have hltz:(k:Int)<(n:Int):=by omega
   obtain⟨j,hj⟩:∃j,j=k+1:=⟨_,rfl⟩
   have n9:(k:Int)+1=(j:Int):=by omega
   have fd:IntKind.i64.wrap (j:Int)=(j:Int):=by rw[nL];omega
   obtain⟨ZV,q1,ZJ,q3,r1,r2,s1,ZK⟩:=Gr j (by omega);clear hj;have f:=ae ((q9 wr).alloc ly (N #[J .u8 (48+(j:Int) / 10),J .u8 (48+(j:Int) % 10)] 5));go_upto_region 6 with fail;generalize World.alloc wr _=W2 at f ⊢;clear ZV q1 ZJ q3 r1 r2 s1 ZK;obtain⟨W,D⟩:∃W,W=C++(⟨#[dig (j / 10),dig (j % 10)]⟩:ByteArray):=⟨_,rfl⟩
   have qr:W.size<=5000:=by rw[D,L9];show C.size+2<=5000;omega
   rw[<-D];clear D n9 fd;go_upto_if 33 with fail;go_cut [9] (λs wx=>∃t:ByteArray,s=U t/\t.size<=5000/\wx=W2);case first =>
    by_cases R:(n:Int) - 1=(k:Int)
    {go_wp2;go_meet;exact⟨_,rfl,by omega,rfl⟩};{have hlb:¬ (k:Int)=(n:Int) - 1:=λe=>R e.symm;clear R;go_wp2;go_meet;exact⟨_,rfl,qr,rfl⟩}
   case rest =>
   obtain⟨t,rfl,hz5,rfl⟩:=hcut;go_wp2_with fail;obtain⟨ZV,q1,ZJ,q3,r1,r2,s1,ZK⟩:=Gr k (by omega);have la:=ae ZV;clear ZV;refine wp_region_held_drew (S:=λ_=>True) (by kernel_rfl) trivial λ_=>?_;replace f:=ae (f.trans (br.drew.mono f.size));generalize wc.drew=v at f ⊢;iterate 10
    refine aW 0 (v:=?_) rfl rfl (by kernel_rfl) (λ_ _ _ ZW=>ZW) rfl ?_ trivial ?_;rotate_left
    ·(intro ZQ B;go_simp)
     (try with_reducible rfl)
    (try simp only[Act.put,nzL])
   refine aW 13 (v:=?_) rfl rfl (by kernel_rfl) (λ_ _ _ ZW=>ZW) rfl ?_ trivial ?_;rotate_left
   ·(intro ZQ B;go_simp)
    (try with_reducible rfl)
   (try simp only[Act.put,nzL])
   clear q1 ZJ q3 r1 r2 s1 ZK;have hsz:¬ 9223372036854775807<C.size+2:=by omega
   repeat' first
    |(refine cQ (i:=10) (j:=14) rfl rfl (by as_aux_lemma=>kernel_rfl) (λK b=>?_) (λK b=>?_))
    |(refine cQ (i:=10) (j:=15) rfl rfl (by as_aux_lemma=>kernel_rfl) (λK b=>?_) (λK b=>?_))
    |(refine cQ (i:=10) (j:=16) rfl rfl (by as_aux_lemma=>kernel_rfl) (λK b=>?_) (λK b=>?_))
    |(refine cQ (i:=10) (j:=17) rfl rfl (by as_aux_lemma=>kernel_rfl) (λK b=>?_) (λK b=>?_))
    |(refine cQ (i:=11) (j:=14) rfl rfl (by as_aux_lemma=>kernel_rfl) (λK b=>?_) (λK b=>?_))
    |(refine cQ (i:=11) (j:=15) rfl rfl (by as_aux_lemma=>kernel_rfl) (λK b=>?_) (λK b=>?_))
    |(refine cQ (i:=11) (j:=16) rfl rfl (by as_aux_lemma=>kernel_rfl) (λK b=>?_) (λK b=>?_))
    |(refine cQ (i:=11) (j:=17) rfl rfl (by as_aux_lemma=>kernel_rfl) (λK b=>?_) (λK b=>?_))
    |(guard_hyp sm;guard_hyp u;(fail_if_success guard_hyp O);refine aW 19 (v:=?_) rfl rfl (by kernel_rfl) (λ_ _ _ ZW=>ZW) rfl ?_ trivial ?_;rotate_left;(focus (intro ZQ B;go_simp;(try with_reducible rfl);done));(try simp only[Act.put,nzL]);have O:=True.intro)
    |(refine gn 10 rfl rfl (by as_aux_lemma=>kernel_rfl) (λK b=>?_))
    |(refine gn 14 rfl rfl (by as_aux_lemma=>kernel_rfl) (λK b=>?_))
    |(refine wpAnyH_done (by as_aux_lemma=>kernel_rfl) ?_ _;go_wp2;exact⟨⟨k+1,L++[((⟨nm,3,lsI (fq t)⟩,T (Q g3 0 Y),c3):TO)],by go_num,by omega,by rw[gB,HK.out];rfl,T9,B9⟩,by simp[intOf];omega⟩)
    |(guard_hyp y;(fail_if_success guard_hyp u);refine aQ rfl (.tmp 49) (.tmp 51) 39 rfl (A (h wr)) 90 i0 (ZH #[J I 0,U ⟨#[]⟩,J I 0]) 3 32 MB gi ex aq ph rfl (by decide) (Z (T (Q g 0 Y)) 2 2) 2 (bK (lsI (sI t)) 2) (by simp[Act.eval]) q (Q gE 0 Y) 1 1 [J I 15,U ⟨#[]⟩,J I 0] (by simp[Act.eval]) rfl (jz y) (by simp[Value.oneCell']) (by unfold maxLen;omega) (by omega) f.size ?_;intro v3 v4 o m H;clear H;obtain⟨v,rfl⟩:∃x,x=v4:=⟨_,rfl⟩;obtain⟨z,c3,rfl⟩:=aF o;(try replace p:=ae (ft m (dC q) p (by decide)));replace f:=ae (f.grown m f.size (λj e=>(q.out.lt j e).1));have u:Hid (v.ownsRow (A (h wr)) 90 3 (Z z 3 c3) 3 (bK (lsI (fq t)) 3)):=o;clear o m q;replace y:=True.intro;refine b _ _ trivial ?_;clear b K;(try simp only[Act.put,nzL]);refine aW 18 (v:=?_) rfl rfl (by kernel_rfl) (λ_ _ _ ZW=>ZW) rfl ?_ trivial ?_;rotate_left;(focus (intro ZQ B;go_simp;(try with_reducible rfl);done));(try simp only[Act.put,nzL]))
    |(guard_hyp ZO;refine aQ rfl (.tmp 35) (.tmp 55) 31 rfl (A (h w)) 94 i1 (ZH #[U ⟨#[]⟩,Z Y 0 0]) 2 40 LC ti n8 bt ld rfl (by decide) (Z a5 (ZT L) c5) (ZT L) (L.flatMap toV) (by simp[Act.eval]) (ZS.aa f ly).y (Q gT 0 Y) 1 1 (toV (⟨nm,3,lsI (fq t)⟩,z,c3)) (by simp[Act.eval]) rfl (jz ZO) (by simp[toV,Value.oneCell']) (by unfold maxLen;omega) (by omega) (AD E.size f.size) ?_;intro v7 v8 o m H;clear H;obtain⟨a7,c7,rfl⟩:=aF o;obtain⟨g3,n7⟩:=fE u.out (by omega);subst n7;have T9:=ae ((ZS.aa f ly).app (M:=[((⟨nm,3,lsI (fq t)⟩,T (Q g3 0 Y),c3):TO)]) (λr X=>by rw[j4.1 X];exact⟨⟨g3,rfl,(gV u.out).1,fU u.out⟩,by show 3<=300;omega,pL (by omega)⟩) o m);have B9:=ae ((E.trans (f.mono E.size)).grown m (AD E.size f.size) (λj e=>(ZS.y.lt j e).1));clear o m;refine b _ _ trivial ?_;clear b K;(try simp only[Act.put,nzL]))
    |(have ZM:=jz p;have hv:=la.out v ZP (ZM 0 _ rfl) (ZM 1 _ rfl);clear ZM;go_simp;refine b _ v trivial ?_;clear hv p;clear b K;(try simp only[Act.put,nzL]);refine aW 12 (v:=?_) rfl rfl (by kernel_rfl) (λ_ _ _ ZW=>ZW) rfl ?_ trivial ?_;rotate_left;(focus (intro ZQ B;go_simp;(try with_reducible rfl);done));(try simp only[Act.put,nzL]);have sm:=True.intro;obtain⟨nm,P⟩:∃nm,nm=C++(⟨#[dig (k / 10),dig (k % 10)]⟩:ByteArray):=⟨_,rfl⟩;rw[<-P];clear P)
    |(go_simp;go_at_call 39;refine(pN t _).mono ?_;rintro e v ⟨g,rfl,hO,l⟩;(try replace p:=ae ((l.block ZP (ag p)).trans p));have q:=ae (aA hO f.size);replace f:=ae (f.trans (l.mono f.size));clear hO l;refine b _ _ trivial ?_;clear b K;(try simp only[Act.put,nzL]))
    |(go_simp;go_at_call 40;refine(aT 15 _).mono ?_;rintro e v ⟨rfl,l⟩;(try replace p:=ae ((l.block ZP (ag p)).trans p));replace q:=ae (own_below q l ly);replace f:=ae (f.trans (l.mono f.size));clear l;refine b _ _ trivial ?_;clear b K;(try simp only[Act.put,nzL]))
    |((fail_if_success guard_hyp ro);have p:Hid ((ZU v (N #[J .u8 (48+(k:Int) / 10),J .u8 (48+(k:Int) % 10)] 5)).heap[A (h v)]?=T (N #[J .u8 (48+(k:Int) / 10),J .u8 (48+(k:Int) % 10)] 5 (0,0))):=nD v _;go_simp;have l:=(q9 v).alloc ly (N #[J .u8 (48+(k:Int) / 10),J .u8 (48+(k:Int) % 10)] 5);(try replace q:=ae (own_below q l ly));(try replace u:=ae (own_below u l ly));(try replace y:=ae ((l.block gE (ag y)).trans y));replace f:=ae (f.trans (l.mono f.size));clear l;refine b _ (ZU v (N #[J .u8 (48+(k:Int) / 10),J .u8 (48+(k:Int) % 10)] 5)) trivial ?_;clear b K;generalize (A (h v))=ZP at p ⊢;generalize ZU v (N #[J .u8 (48+(k:Int) / 10),J .u8 (48+(k:Int) % 10)] 5)=v at *;(try simp only[Act.put,nzL]);have ro:=True.intro)
    |((fail_if_success guard_hyp y);have y:Hid ((ZU v (N #[J I 15,U ⟨#[]⟩,J I 0] 90)).heap[A (h v)]?=T (N #[J I 15,U ⟨#[]⟩,J I 0] 90 (0,0))):=nD v _;go_simp;have l:=(q9 v).alloc ly (N #[J I 15,U ⟨#[]⟩,J I 0] 90);(try replace p:=ae ((l.block ZP (ag p)).trans p));replace q:=ae (own_below q l ly);replace f:=ae (f.trans (l.mono f.size));clear l;refine b _ (ZU v (N #[J I 15,U ⟨#[]⟩,J I 0] 90)) trivial ?_;clear b K;generalize (A (h v))=gE at y ⊢;generalize ZU v (N #[J I 15,U ⟨#[]⟩,J I 0] 90)=v at *;(try simp only[Act.put,nzL]))
    |(guard_hyp O;(fail_if_success guard_hyp ZO);have ZO:Hid ((ZU v (N #[U nm,Z z 3 c3] 94)).heap[A (h v)]?=T (N #[U nm,Z z 3 c3] 94 (0,0))):=nD v _;go_simp;have l:=(q9 v).alloc ly (N #[U nm,Z z 3 c3] 94);replace u:=ae (own_below u l ly);replace f:=ae (f.trans (l.mono f.size));clear l;refine b _ (ZU v (N #[U nm,Z z 3 c3] 94)) trivial ?_;clear b K;generalize (A (h v))=gT at ZO ⊢;generalize ZU v (N #[U nm,Z z 3 c3] 94)=v at *;(try simp only[Act.put,nzL]))
    |(guard_hyp T9;go_simp;refine b _ _ trivial ?_;clear b K;(try simp only[Act.put,nzL]))
  ·obtain rfl:k=n:=by omega
   go_wp2;go_ret;exact⟨_,_,L,rfl,ZS,HK,E⟩
def DFn (n:Nat)(w:G)(e:Ending)(f:G):Prop:=∃(a0:Option Addr) (n0 c0:Nat) (f0:Nat->Source) (a1:Option Addr) (c1:Nat) (b:List TR),e=ZG (ZH #[Z a0 n0 c0,Z a1 (ZT b) c1])/\(ZT b)=n/\n0<=250/\HSp (A (h w)) f a0 n0 f0 a1 (ZT b) (bj (b.map (·.1)))/\TRow f (A (h w)+1) (Z a1 (ZT b) c1) b/\GX b/\(∀r∈b,r.1.e.size<=5000/\r.1.l=3)/\Below (A (h w)) w f
theorem nW (n:Nat)(hn:n<=200)(en:ByteArray)(he:en.size<=5000)(w:G):Calls Pg 88 #[J I n,U en] w λe w'=>DFn n w e w':=by
 obtain⟨sm,m,n7,ld,qr⟩:=KQ ez;have ZM:A (h (ZU w (N #[Z Y 0 0,Z Y 0 0] 33)))=A (h w)+1:=by simp
 have bt:A (h (ZU (ZU w (N #[Z Y 0 0,Z Y 0 0] 33)) (N #[U ⟨#[97]⟩,U ⟨#[103,114,111,117,110,100]⟩] 87)))=A (h w)+1+1:=by simp
 obtain⟨W2,ZS⟩:∃W:G,ZU (ZU (ZU w (N #[Z Y 0 0,Z Y 0 0] 33)) (N #[U ⟨#[97]⟩,U ⟨#[103,114,111,117,110,100]⟩] 87)) (N #[Z (T (Q (A (h w)+1) 0 Y)) 1 1,Z Y 0 0] 33)=W:=⟨_,rfl⟩
 obtain⟨A0,-,-,-,-⟩:=nb3 ZS;have D:=ae ZS;clear ZS;have X1:Hid (SpX (A (h w)) (A (h w)+1+1) (A (h w)+1) W2 (Z (T (Q (A (h w)+1) 0 Y)) 1 1) (Z Y 0 0) [⟨⟨#[97]⟩,⟨#[103,114,111,117,110,100]⟩⟩] []):=by rw[<-D.out];have k1:=nD w (N #[Z Y 0 0,Z Y 0 0] 33);have k2:=nD (ZU w (N #[Z Y 0 0,Z Y 0 0] 33)) (N #[U ⟨#[97]⟩,U ⟨#[103,114,111,117,110,100]⟩] 87);rw[ZM] at k2;have BQ:=(cM (A (h w)+1) (ZU w (N #[Z Y 0 0,Z Y 0 0] 33))).alloc (by omega) (N #[U ⟨#[97]⟩,U ⟨#[103,114,111,117,110,100]⟩] 87);have ZW:=qC (LS:=[⟨⟨#[97]⟩,⟨#[103,114,111,117,110,100]⟩⟩]) (base:=A (h w)+1) (base':=A (h w)+1) ((BQ.block (A (h w)) (gM _)).trans k1) (gM _) ly (by omega) (v0:=Z (T (Q (A (h w)+1) 0 Y)) 1 1) ⟨rfl,.inr ⟨A (h w)+1,1,_,rfl,j6 _,k2,j6 _,by unfold maxLen;omega,rfl,rfl⟩⟩ (df _ _);rw[bt] at ZW;exact ZW
 have hw2:IntKind.i64.wrap ((n:Int) - 1)=(n:Int) - 1:=by rw[nL];omega
 clear ZM bt;go_enter func88,ntmps88;go_wp2_with fail;rw[D.out];clear D;obtain⟨q,ZV,c2,hLS,ZK⟩:∃(q:List Source) (ZV:Option Addr) (c2:Nat),ZT q<=250/\Hid (SpX (A (h w)) (A (h w)+1+1) (A (h w)+1) W2 (Z ZV (ZT q) c2) (Z Y 0 0) q []):=⟨[⟨⟨#[97]⟩,⟨#[103,114,111,117,110,100]⟩⟩],T (Q (A (h w)+1) 0 Y),1,by show 1<=250;omega,X1⟩
 clear X1;generalize ph:A (h w)+1+1=xb at ZK ⊢;clear ph;go_loopw [6] (λi wr=>∃(k:Nat) (v1:ZD) (b:List TR),i=J I k/\k<=n/\(ZT b)=k/\Hid (SpX (A (h w)) xb (A (h w)+1) wr (Z ZV (ZT q) c2) v1 q b)/\Hid (GX b)/\Hid (∀r∈b,r.1.e.size<=5000/\r.1.l=3)/\Hid (Below (A (h w)) w wr)) (λi _=>n - (intOf i).toNat);case atStart=>exact⟨0,_,[],rfl,by omega,rfl,ZK,λ_ ZW=>absurd ZW nj,λ_ ZW=>absurd ZW nj,A0⟩
 case round =>
  obtain⟨k,v1,b,rfl,hk,ex,ZQ,G2,N2,B2⟩:=hrel;have HK:Hid (ZT b=k):=ex;obtain⟨ZP,c5,rfl⟩:=aF ZQ.w.y;obtain⟨la,X⟩:=ZQ.cells;have n8:=ZQ.lt;have hrn:ZT b<=200:=by omega
  clear ex;by_cases hlt:k<n
  ·have hwk:IntKind.i64.wrap ((k:Int)+1)=(k:Int)+1:=by rw[nL];omega
   go_wp2_with fail;refine(jW (k+1) (by omega) _).mono ?_;rintro e L ⟨nb,rfl,hnb,ZO⟩;have M:=ae (ZQ.aa ZO ly);have B3:=ae (B2.trans (ZO.mono B2.size));obtain⟨la,X⟩:=M.cells;have n8:=M.lt;clear ZO;by_cases fd:(n:Int) - 1=(k:Int)
   case' pos =>
    go_wp2_with fail;obtain⟨t,o⟩:∃z,z=en:=⟨_,rfl⟩
    have ro:t.size<=5000:=by rw[o];omega
   case' neg =>
    have ur:¬ (k:Int)=(n:Int) - 1:=λe=>fd e.symm;clear fd;go_wp2_with fail;clear ur;obtain⟨t,o⟩:∃z,z=nb:=⟨_,rfl⟩
    have ro:t.size<=5000:=by rw[o];omega
   all_goals
    rw[<-o];have HZ:=ae o;clear o;clear la X;have B:=ae M.keepT;refine aD (BxT (Z ZV (ZT q) c2) (Z ZP (ZT b) c5) xb) 14 (by kernel_rfl) ?_;have l:=ae (B L.drew (λj m _=>rfl))
    iterate 3
     refine aM 0 (v:=?_) rfl rfl (by kernel_rfl) (λ_ _ _ ZW=>ZW) rfl ?_ l ?_;rotate_left
     ·(rintro wz ⟨s0,s1⟩;go_simp)
      (try with_reducible rfl)
     (try simp only[Act.put,nzL])
    refine aM 4 (v:=?_) rfl rfl (by kernel_rfl) (λ_ _ _ ZW=>ZW) rfl ?_ l ?_;rotate_left
    ·(rintro wz ⟨s0,s1⟩;go_simp)
     (try with_reducible rfl)
    (try simp only[Act.put,nzL])
    refine ah (i:=3) rfl (by kernel_rfl) λK f=>?_;go_simp;go_at_call 64;refine(jW k (by omega) _).mono ?_;rintro e wl ⟨C,rfl,htn,ZJ⟩;have R:Hid (Below (A (h L)) L wl):=(q9 L).drew.trans ZJ;clear ZJ l;have l:=ae (B wl (λj m _=>R.block j m));refine f _ _ (λ_=>l) ?_;clear f K
    (try simp only[Act.put,nzL])
    refine ah (i:=5) rfl (by kernel_rfl) λK f=>?_;go_simp;go_at_call 41;refine(bi _ _).mono ?_;rintro e wm ⟨rfl,aq⟩;have P:=ae (R.trans (aq.mono R.size));clear aq l;have l:=ae (B wm (λj m _=>P.block j m));refine f _ _ (λ_=>l) ?_;clear f K
    (try simp only[Act.put,nzL])
    refine ah (i:=6) rfl (by kernel_rfl) λK f=>?_;go_simp;go_at_call 40;refine(aT _ _).mono ?_;rintro e wo ⟨rfl,ZL⟩;have S:=ae (P.trans (ZL.mono P.size));clear ZL l;have l:=ae (B wo (λj m _=>S.block j m));refine f _ _ (λ_=>l) ?_;clear f K
    (try simp only[Act.put,nzL])
    refine ah (i:=7) rfl (by kernel_rfl) λK f=>?_;go_simp;go_at_call 40;refine(aT _ _).mono ?_;rintro e s ⟨rfl,V⟩;have BN:=ae (S.trans (V.mono S.size));clear V l R P S;have hzn:=BN.size;have BI:=ae (BN.alloc (by omega) (N #[J I 1,U t,J I 0,J I 12,U ⟨#[]⟩,J I 0,J I 15,U ⟨#[]⟩,J I 0] 90));have hxi:=M.hi;have OI:=ae (As s t (base:=A (h w)+1) (by omega));have l:=ae (B s (λj m _=>BN.block j m));refine f _ _ (λ_=>l) ?_;clear f K l
    (try simp only[Act.put,nzL])
    have l:=ae (B _ (λj m _=>BI.block j m))
    iterate 3
     refine bY 8 rfl rfl (by kernel_rfl) λK f=>?_;go_simp;refine f _ _ (λ_=>l) ?_;clear f K
     (try simp only[Act.put,nzL])
    have n9:A (h (ZU s (N #[J I 1,U t,J I 0,J I 12,U ⟨#[]⟩,J I 0,J I 15,U ⟨#[]⟩,J I 0] 90)))=A (h s)+1:=by simp
    have AB:=ae (BI.alloc (by omega) (N #[U C,Z (T (Q (A (h s)) 0 Y)) 3 3] 94));refine ah (i:=11) rfl (by kernel_rfl) λK f=>?_;go_simp;have ZN:=ae (M.aa AB ly);have OA:=ae (own_below OI (br.alloc ly (N #[U C,Z (T (Q (A (h s)) 0 Y)) 3 3] 94)) ly);refine f _ _ (λ_=>B _ (λj m _=>AB.block j m)) ?_;clear f K
    (try simp only[Act.put,nzL])
    refine ah (i:=12) rfl (by kernel_rfl) λK f=>?_;refine aQ rfl (.tmp 25) (.tmp 35) 31 rfl (A (h w)+1) 94 sm (ZH #[U ⟨#[]⟩,Z Y 0 0]) 2 40 LC m n7 ld qr rfl (by decide) (Z ZP (ZT b) c5) (ZT b) (b.flatMap aY) (by simp[Act.eval]) ZN.w.y (Q (A (h s)+1) 0 Y) 1 1 (aY (⟨C,3,lsI (fq t)⟩,A (h s),3)) (by simp[Act.eval]) rfl (λj u hu=>oM (n9) _ _ _ j u hu) (by simp[aY,Value.oneCell']) (by unfold maxLen;omega) (by omega) (by have:=ZN.hi;have:=ZN.lt;omega) ?_;intro v' w7 H y _;obtain⟨a7,c7,rfl⟩:=aF H;have S7:=ae (B w7 (λj m th=>(y.block j (lj m AB.size) th).trans (AB.block j m)));obtain⟨c8,b8⟩:=ZN.addT (x:=⟨C,3,lsI (fq t)⟩) (g:=A (h s)) (c:=3) (λr E e=>by have:=M.w.ltg r E;omega) OA H y;have X9:=ae c8;have B9:=ae b8;clear H y c8 b8;refine f _ _ (λ_=>S7) ?_;clear f K
    (try simp only[Act.put,nzL])
    refine ah (i:=13) rfl (by kernel_rfl) λK f=>?_;go_simp;refine f _ _ (λ_=>S7) ?_;clear f K
    (try simp only[Act.put,nzL])
    obtain⟨s7,t7⟩:=S7.out;have f7:w7.frozen? (Q xb 1 Y)=ZB:=by simp[World.frozen?,s7]
    have l7:=ag s7;clear s7;refine ah (i:=14) rfl (by kernel_rfl) λK f=>?_;go_simp;refine f _ _ (λZW=>absurd rfl ZW) ?_;clear f K
    (try simp only[Act.put,nzL])
    refine bk (by kernel_rfl) ?_ _;have o:=HZ.out;subst o;go_wp2;have BB:=ae ((AB.mono (show (A (h w))+1<=A (h L) by omega)).trans B9.out)
    refine⟨⟨k+1,Z a7 (ZT b+1) c7,b++[((⟨C,3,lsI (fq t)⟩,A (h s),3):TR)],by go_num,by omega,by rw[gB,HK.out];rfl,X9,G2.add (r:=(⟨C,3,lsI (fq t)⟩,A (h s),3)) (by show 3<=300;omega) (pL (by omega)),(λr E=>by
     rcases n6.1 E with E|E
     ·exact N2 r E
     ·rw[j4.1 E];exact⟨by show C.size<=5000;omega,rfl⟩),B3.trans (BB.mono (by omega))⟩,by simp[intOf];omega⟩
  ·obtain rfl:k=n:=by omega
   have kr:=ZQ.res;have r0:wr.cell? (Q (A (h w)) 0 Y)=T (Z Y 0 0):=by simp[World.cell?,kr]
   have r1:wr.cell? (Q (A (h w)) 1 Y)=T (Z Y 0 0):=by simp[World.cell?,kr]
   have f0:wr.frozen? (Q (A (h w)) 0 Y)=ZB:=by simp[World.frozen?,kr]
   have f1:wr.frozen? (Q (A (h w)) 1 Y)=ZB:=by simp[World.frozen?,kr]
   have l0:=ag kr;clear kr;have BE:=ae ((B2.setCell (p:=(Q (A (h w)) 0 Y)) ly (Z ZV (ZT q) c2)).setCell (p:=(Q (A (h w)) 1 Y)) ly (Z ZP (ZT b) c5));have HE:=ae ((ZQ.fin rfl rfl (by omega) (by omega) G2 (Z ZV (ZT q) c2) (Z ZP (ZT b) c5)).mono (IS (A (h w))));have TE:=ae ((ZQ.w.set (j:=0) (gM _) (Z ZV (ZT q) c2)).set (j:=1) (gM _) (Z ZP (ZT b) c5));go_wp2;exact bp (v:=ZH #[Z ZV (ZT q) c2,Z ZP (ZT b) c5]) (by simp[results,results88,go_sem,r0,r1]) rfl ⟨_,_,_,_,_,_,_,rfl,HK,by omega,HE,TE,G2,N2,BE⟩
