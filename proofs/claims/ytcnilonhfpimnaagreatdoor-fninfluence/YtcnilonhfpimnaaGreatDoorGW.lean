import Derived.Test.YtcnilonhfpimnaaGreatDoorGM
import Derived.Lib.SliceRun
import Derived.Lib.ItoaNum
import Derived.Lib.ItoaLen
import Derived.Lib.ItoaMem
import Derived.Lib.SmallJoins
set_option linter.all false
set_option maxRecDepth 100000
set_option maxHeartbeats 2000000
open Go renaming Addr.mk->T,Value.slice->Y,Value.string->U,Value.int->J,Value.agg->ZJ,Obj.cells->N,IntKind.i64->I,World->E,Value->ZB,TypeId->ZK,Ending.returned->ZI,World.heap->B,World.ownsRow->ZV,World.alloc->z,World.cell?->ZU,Proofs.Tryz.prog->Pg,Calls->Qw
open Option renaming none->Z,some->Q
open Bool renaming false->ZA
open Array renaming size->A
namespace Go.Proofs.YtcnilonhfpimnaaGreatDoor.Vp
open Tryz RowKit
variable {n g size j_ b j:Nat}{w:E}{e:ZK}{f:Nat->Ins}{i:List ZB}
def Cells (w:E)(b off m:Nat)(F:Nat->ZB):Prop:=b<A (B w)/\∀j,j<m->ZU w (T b (off+j) Z)=Q (F j)/\w.frozen? (T b (off+j) Z)=ZA
structure Touch (P:Nat->Prop)(w w':E):Prop where
 os:w'.os=w.os
 tape:w'.tape=w.tape
 output:w'.output=w.output
 size:A (B w)<=A (B w')
 p:∀k,k<A (B w)->¬ P k->w'.heap[k]?=w.heap[k]?
def uq (x:Int)(b:UInt8)(h:x=b.toNat)(w:E)(g:Nat)(i:ZU w (T g 0 Z)=Q (J .u8 x)):(convert 22 9 (Y (Q (T g 0 Z)) 1 1)).run Pg w=.ok (U ⟨#[b]⟩) w:=by
 refine VU _ 22 9 5 (T g 0 Z) 1 [b] Q2 PO ES ?_;intro j f;obtain rfl:j=0:=by simpa using f
 simp[Addr.add,i,h]
def dig (n:Nat):UInt8:=UInt8.ofNat (48+n)
def digit (n:Nat)(h:n<10):(48+(n:Int))=(dig n).toNat:=by unfold dig;rw[UInt8.toNat_ofNat'];omega
def ry (h:¬ n<10):Lib.decDigits n=Lib.decDigits (n / 10)++[dig (n % 10)]:=by rw[Lib.decDigits,dif_neg h];rfl
def iK (n:Nat)(h:n<10)(w:E):Qw Pg 54 #[J I n] w λe b=>e=ZI (U ⟨#[dig n]⟩)/\Below (A (B w)) w b:=by have hcv:=uq (48+(n:Int)) _ (digit n h);go_enter func54,ntmps54;go_wp2;go_ret;exact⟨rfl,br.alloc ly _⟩
def sA (n:Nat):n<=9223372036854775807->∀w:E,
  Qw Pg 54 #[J I n] w λe g=>e=ZI (U ⟨(Lib.decDigits n).toArray⟩)/\Below (A (B w)) w g:=by
 induction n using Nat.strongRecOn with
 |ind n i =>
  intro hn w;by_cases h:n<10;{rw[Lib.decDigits_one h];exact iK n h w}
  ·have f:∀w:E,Qw Pg 54 #[J I ((n:Int) / 10)] w λe g=>e=ZI (U ⟨(Lib.decDigits (n / 10)).toArray⟩)/\Below (A (B w)) w g:=λw=>i (n / 10) (by omega) (by omega) w;have j:=ae f;clear i f;have hcv:=uq (48+(n:Int) % 10) (dig (n % 10)) (by have:=digit (n % 10) (by omega);omega);have q1:IntKind.i64.wrap ((n:Int) / 10)=(n:Int) / 10:=by rw[nL];omega
   have q2:IntKind.i64.wrap ((n:Int) % 10)=(n:Int) % 10:=by rw[nL];omega
   have q3:IntKind.i64.wrap (48+(n:Int) % 10)=48+(n:Int) % 10:=by rw[nL];omega
   have q5:(n:Int).tmod 10=(n:Int) % 10:=RV (by omega);have hl:(Lib.decDigits (n / 10)).length<=21:=by rw[<-Lib.itoa_nonneg];exact Lib.itoa_length_le _ (by omega) (by omega)
   have q4:IntKind.u8.wrap (48+(n:Int) % 10)=48+(n:Int) % 10:=by rw[XG];omega
   go_enter func54,ntmps54;go_wp2_with fail;go_region_with (go_at_call 54;refine(j _).P ?_;rintro e w1⟨rfl,b⟩;have hc1:=(Jl b).1);all_goals
    go_wp2;go_ret;refine⟨gH ?_,?_⟩
    ·rw[ry h]
     apply YU;simp
    ·first
      |exact(br.drew.k b).alloc b.size _
      |exact((br.alloc ly _).drew).k (b.P (by simp))
def IA (k:Nat):UInt8:=([48,49,50,51,52,53,54,55,56,57,97,98,99,100,101,102]:List UInt8).getD k 0
def Jz (c:UInt8):List UInt8:=[IA (c.toNat / 16),IA (c.toNat % 16)]
def IB (c:UInt8):Bool:=decide (32<=c.toNat/\c.toNat<=126/\c.toNat≠34/\c.toNat≠92)
def enc (c:UInt8):List UInt8:=if IB c=true then [c] else 92::Jz c
def GQ (n:Nat)(h:n<=2000):(Lib.decDigits n).length<=21:=by rw[<-Lib.itoa_nonneg];exact Lib.itoa_length_le _ (by omega) (by omega)
def zb (x y ZY:Int)(a b c:UInt8)(i:x=a.toNat)(m:y=b.toNat)(hz:ZY=c.toNat)(w:E)(g:Nat)(l:ZU w (T g 0 Z)=Q (J .u8 x))(h1:ZU w (T g 1 Z)=Q (J .u8 y))(h2:ZU w (T g 2 Z)=Q (J .u8 ZY)):(convert 22 9 (Y (Q (T g 0 Z)) 3 3)).run Pg w=.ok (U ⟨#[a,b,c]⟩) w:=by
 refine VU _ 22 9 5 (T g 0 Z) 3 [a,b,c] Q2 PO ES ?_;intro j f;have f:j<3:=f;match j,f with
 |0,_=>simp[Addr.add,l,i]
 |1,_=>simp[Addr.add,h1,m]
 |2,_=>simp[Addr.add,h2,hz]
 |k+3,h=>exact absurd h (by omega)
def JA (i:Nat)(h:i<1000):(∀(w:E) (g:Nat),ZU w (T g 0 Z)=Q (J .u8 (48+(i:Int) / 100))->ZU w (T g 1 Z)=Q (J .u8 (48+(i:Int) / 10 % 10))->ZU w (T g 2 Z)=Q (J .u8 (48+(i:Int) % 10))->(convert 22 9 (Y (Q (T g 0 Z)) 3 3)).run Pg w=.ok (U ⟨#[dig (i / 100),dig (i / 10 % 10),dig (i % 10)]⟩) w)/\IntKind.i64.wrap ((i:Int) / 100)=(i:Int) / 100/\IntKind.i64.wrap ((i:Int) / 10)=(i:Int) / 10/\IntKind.i64.wrap ((i:Int) / 10 % 10)=(i:Int) / 10 % 10/\IntKind.i64.wrap ((i:Int) % 10)=(i:Int) % 10/\(i:Int).tmod 10=(i:Int) % 10/\((i:Int) / 10).tmod 10=(i:Int) / 10 % 10/\IntKind.i64.wrap (48+(i:Int) / 100)=48+(i:Int) / 100/\IntKind.i64.wrap (48+(i:Int) / 10 % 10)=48+(i:Int) / 10 % 10/\IntKind.i64.wrap (48+(i:Int) % 10)=48+(i:Int) % 10/\IntKind.u8.wrap (48+(i:Int) / 100)=48+(i:Int) / 100/\IntKind.u8.wrap (48+(i:Int) / 10 % 10)=48+(i:Int) / 10 % 10/\IntKind.u8.wrap (48+(i:Int) % 10)=48+(i:Int) % 10:=
 ⟨zb (48+(i:Int) / 100) (48+(i:Int) / 10 % 10) (48+(i:Int) % 10) (dig (i / 100)) (dig (i / 10 % 10)) (dig (i % 10)) (by have:=digit (i / 100) (by omega);omega) (by have:=digit (i / 10 % 10) (by omega);omega) (by have:=digit (i % 10) (by omega);omega),(by rw[nL];omega),(by rw[nL];omega),(by rw[nL];omega),(by rw[nL];omega),RV (by omega),RV (by omega),(by rw[nL];omega),(by rw[nL];omega),(by rw[nL];omega),(by rw[XG];omega),(by rw[XG];omega),(by rw[XG];omega)⟩
def iL (i:Nat)(h:i<1000)(w:E):Qw Pg 56 #[J I i] w λe b=>∃s:F_,e=ZI (U s)/\s.size<=4/\Below (A (B w)) w b:=by obtain⟨hcv,q1,q2,q3,q4,q5,q6,r1,r2,r3,s1,s2,s3⟩:=JA i h;go_enter func56,ntmps56;go_wp2;go_ret;refine⟨_,rfl,?_,br.alloc ly _⟩;simp only[PU];exact p7 4
def addr_add (b off j:Nat):((T b off Z):Addr).add j=(T b (off+j) Z):=by unfold Addr.add;split<;>simp_all
def cT {f:Type}(g:f->List ZB)(C:Nat)(b:∀x,(g x).length=C):∀(L:List f) (i j:Nat) (_:j<C) (x:f),L[i]?=Q x->(L.flatMap g)[i*C+j]?=(g x)[j]?
 |[],i,j,_,x,h=>by simp at h
 |y::L,0,j,hj,x,h=>by simp at h;subst h;rw[NZ,UR,IT,NH (by rw[b];exact hj)]
 |y::L,i+1,j,hj,x,h=>by simp at h;rw[NZ,KK (by rw[b,Nat.succ_mul];omega),b,show(i+1)*C+j - C=i*C+j by rw[Nat.succ_mul];omega];exact cT g C b L i j hj x h
def fA {b:Type}(g:b->List ZB)(C:Nat)(f:∀x,(g x).length=C):∀L:List b,(L.flatMap g).length=L.length*C
 |[]=>by simp
 |y::L=>by rw[NZ,cM,f,fA g C f L,vF,Nat.succ_mul];omega
def lO (x:Ins):List ZB:=[J I x.op,U x.s,J I x.n]
def bZ (f:Nat->Ins)(n:Nat):List ZB:=((List.range n).map f).flatMap lO
def lP (f:Nat->Ins)(n:Nat):(bZ f n).length=n*3:=by rw[bZ,fA lO 3 (λ_=>rfl)];simp
def oy (f:Nat->Ins){i:Nat}(hi:i<n)(j:Nat)(b:j<3):(bZ f n)[i*3+j]?=(lO (f i))[j]? :=
 cT lO 3 (λ_=>rfl) _ i j b (f i) (by simp[hi])
def us (f:Nat->Ins)(n:Nat):∀u∈bZ f n,u.oneCell'=true:=by intro u g;simp only[bZ,QP,lO] at g;obtain⟨x,_,b⟩:=g;simp at b;rcases b with rfl|rfl|rfl<;>simp[Value.oneCell']
def rz{off:Nat}(h:Q_ w b off n f):∀j u,(bZ f n)[j]?=Q u->w.cell? (((T b off Z):Addr).add j)=Q u:=by
 intro j u g;have hl:j<n*3:=by have:=(j5.1 g).1;rwa[lP] at this
 have e:j=j / 3*3+j % 3:=by omega
 have hi:j / 3<n:=by omega
 obtain⟨i,h1,h2⟩:=h.2 (j / 3) hi;have l:j % 3<3:=UJ _ (by omega);rw[e,oy f hi (j % 3) l] at g;have m:((T b off Z):Addr).add j=(T b (off+j) Z):=addr_add _ _ _;rw[m];rcases(show j % 3=0\/j % 3=1\/j % 3=2 by omega) with q|q|q;all_goals rw[q] at g;simp[lO] at g;subst g
 {rw[show off+j=off+j / 3*3 by omega];exact i};{rw[show off+j=off+j / 3*3+1 by omega];exact h1};{rw[show off+j=off+j / 3*3+2 by omega];exact h2}
def bA{f:Nat}(h:ZV w f e size (Y (Q (T g 0 Z)) n j_) n i){u:ZB}(o:i[j]?=Q u):ZU w (T g j Z)=Q u/\w.frozen? (T g j Z)=ZA:=by
 refine⟨?_,?_⟩
 ·have:=h.cells (g:=g) rfl j u o;have l:((T g 0 Z):Addr).add j=(T g j Z):=by rw[addr_add];simp
  rwa[l] at this
 ·rcases h.2 with⟨b,_⟩|⟨g',cap',cur,b,_,m,_⟩
  {simp at b};{simp at b;obtain⟨rfl,rfl⟩:=b;simp[World.frozen?,m]}
def cV{f:List ZB}(h:ZV w b e size (Y (Q (T g 0 Z)) n j_) n f):b<=g/\g<A (B w):=h.lt g rfl
def Qz (w:E)(g:Nat)(e:ZK):Prop:=∃b,w.heap[g]?=Q (N b e (0,0))
def jH{f:Nat}{j:List ZB}(h:ZV w f e size (Y (Q (T g 0 Z)) n j_) n j):Qz w g e:=by
 rcases h.2 with⟨b,_⟩|⟨g',cap',i,b,_,l,_⟩
 {simp at b};{simp at b;obtain⟨rfl,rfl⟩:=b;exact⟨i,l⟩}
def fc{k:Nat}{f:ZK}(h:Qz w g e)(l:Qz w k f)(i:e≠f):g≠k:=by rintro rfl;obtain⟨c,j⟩:=h;obtain⟨d,b⟩:=l;rw[j] at b;simp at b;exact i b.2
def aH{R:Nat}{v:ZB}(h:ZV w b e size v n i)(hR:R<b)(u:ZB):(w.setCell (T R j Z) u).ownsRow b e size v n i:=by
 refine h.kept (row:=Q R) ⟨rfl,rfl,rfl,by simp[World.setCell],λk _ f=>qh _ _ _ _ (by simpa using f)⟩ ?_;rcases h.2 with⟨rfl,_⟩|⟨g,j_,cur,rfl,hg,_⟩
 {exact .inl rfl};{right;simp[Value.ownBlock];omega}
def kY{l:Nat}(h:ZV w l 102 3 (Y (Q (T g 0 Z)) n j_) n (bZ f n)):Q_ w g 0 n f/\∃F,Cells w g 0 (n*3) F:=by
 have b:=(cV h).2;refine⟨⟨b,λi hi=>⟨?_,?_,?_⟩⟩,λj=>(bZ f n)[j]?.getD undef,b,λj o=>?_⟩;{have:=(bA h (j:=i*3) (u:=J I (f i).op) (by have:=oy f hi 0 (by omega);simpa[lO] using this)).1;rwa[show 0+i*3=i*3 by omega]};{have:=(bA h (j:=i*3+1) (u:=U (f i).s) (by have:=oy f hi 1 (by omega);simpa[lO] using this)).1;rwa[show 0+i*3+1=i*3+1 by omega]};{have:=(bA h (j:=i*3+2) (u:=J I (f i).n) (by have:=oy f hi 2 (by omega);simpa[lO] using this)).1;rwa[show 0+i*3+2=i*3+2 by omega]}
 ·rw[IT];have m:j<(bZ f n).length:=by rw[lP];exact o
  have:=bA h (j:=j) (u:=(bZ f n)[j]) (by rw[gq m]);show w.cell? _=Q ((bZ f n)[j]?.getD undef)/\_;rw[gq m];exact this
def AR (b off n j_:Nat)(f:Nat->Ins)(w:E)(hn:(n:Int)<=1048576)(o:Q_ w b off n f):Qw Pg 152 #[Y (Q (T b off Z)) n j_] w λe q=>∃g c,e=ZI (Y (Q (T g 0 Z)) n c)/\q.ownsRow (A (B w)) 102 3 (Y (Q (T g 0 Z)) n c) n (bZ f n)/\Below (A (B w)) w q:=by
 have t:=ae ((BS w).alloc ly (N #[] 102));have ZY:=ae (o.aa t ly);clear o;obtain⟨s,hi,r,u,m⟩:=NO ou;have hnl:∀w:E,(binOp .eql 35 (Y (Q (T b off Z)) n j_) (Y Z 0 0)).run Pg w=.ok (.bool ZA) w:=λw=>Lib.run_eql_slice_nil w _ _ _ _ _ _ _ QD;go_enter func152,ntmps152;go_wp2_with (at_builtin;refine DN _ rfl (.tmp 5) (.tmp 6) 35 rfl (A (B w)) 102 s (ZJ #[J I 0,U ⟨#[]⟩,J I 0]) 3 32 QD hi r u m rfl (by decide) (Y (Q (T (A (B w)) 0 Z)) 0 0) 0 [] (by simp[Act.eval]) (OU w #[] 0 ly (by unfold maxLen;omega) rfl) (T b off Z) n j_ (bZ f n) (by simp[Act.eval]) (lP f n) (rz ZY) (us f n) (by unfold maxLen;omega) (by omega) (by simp) ?_;intro v' w2 h i l;simp only[IT,NR] at h;have p:=ae h;have y:=ae l;have x:=ae (bg t i (by simp) (λj e=>by simp[Value.ownBlock] at e;omega));clear h i l);go_ret;rcases p.2 with⟨rfl,_⟩|⟨g,c,cur,rfl,_⟩
 {have:=y.1 rfl;simp at this};{exact⟨g,c,rfl,p,x⟩}
def qe (b off n j_:Nat)(f:Nat->Ins)(w:E)(hn:(n:Int)<=1048576)(i:Q_ w b off n f):Qw Pg 118 #[ZJ #[Y (Q (T b off Z)) n j_]] w λe m=>∃g c,e=ZI (ZJ #[Y (Q (T g 0 Z)) n c])/\m.ownsRow (A (B w)) 102 3 (Y (Q (T g 0 Z)) n c) n (bZ f n)/\Below (A (B w)) w m:=by
 have q:=ae (((BS w).alloc ly (N #[Y (Q (T b off Z)) n j_] 37)).alloc (by simp) (N #[Y Z 0 0] 37));have u:=ae (i.aa q ly);have l:ZU (z (z w (N #[Y (Q (T b off Z)) n j_] 37)) (N #[Y Z 0 0] 37)) (T (A (B w)+1) 0 Z)=Q (Y Z 0 0):=by simp
 clear i;go_enter func118,ntmps118;go_wp2_with fail;refine(AR b off n j_ f _ hn u).P ?_;rintro e r⟨g,c,rfl,o,h⟩;have x:=(h.O (p:=(T (A (B w)+1) 0 Z)) (by simp)).k l;have s:=ae (aE (aH (R:=A (B w)+1) (j:=0) o (by simp) (Y (Q (T g 0 Z)) n c)) (base':=A (B w)) (by simp;omega));have t:=ae ((q.k (h.P (by simp;omega))).setCell (p:=(T (A (B w)+1) 0 Z)) (by simp) (Y (Q (T g 0 Z)) n c));have z0:r.frozen? (T (A (B w)+1) 0 Z)=ZA:=(h.frozen (p:=(T (A (B w)+1) 0 Z)) (by simp)).k (by simp);clear o h l;go_wp2;exact bp (v:=ZJ #[Y (Q (T g 0 Z)) n c]) (by simp[results,results118,go_sem,x]) rfl ⟨g,c,rfl,s,t⟩
def je (b off n j_:Nat)(f:Nat->Ins)(w:E)(hn:(n:Int)<=1048576)(y:Q_ w b off n f):Qw Pg 44 #[ZJ #[Y (Q (T b off Z)) n j_]] w λe s=>∃g c,e=ZI (ZJ #[Y (Q (T g 0 Z)) n c])/\s.ownsRow (A (B w)) 102 3 (Y (Q (T g 0 Z)) n c) n (bZ f n)/\Below (A (B w)) w s:=by
 have ZY:=ae (((BS w).alloc ly (N #[Y (Q (T b off Z)) n j_] 37)).alloc (by simp) (N #[Y Z 0 0] 37));have r:ZU (z (z w (N #[Y (Q (T b off Z)) n j_] 37)) (N #[Y Z 0 0] 37)) (T (A (B w)+1) 0 Z)=Q (Y Z 0 0):=by simp
 have ZX:ZU (z (z w (N #[Y (Q (T b off Z)) n j_] 37)) (N #[Y Z 0 0] 37)) (T (A (B w)) 0 Z)=Q (Y (Q (T b off Z)) n j_):=by simp
 have z0:(z (z w (N #[Y (Q (T b off Z)) n j_] 37)) (N #[Y Z 0 0] 37)).frozen? (T (A (B w)+1) 0 Z)=ZA:=by simp
 have hz:A (B (z (z w (N #[Y (Q (T b off Z)) n j_] 37)) (N #[Y Z 0 0] 37)))=A (B w)+1+1:=by simp
 have o:=ae (y.aa ZY ly);clear y;obtain⟨u,hi,t,x,ZW⟩:=NO ou;go_enter func44,ntmps44;have q:=ae ((a8 (A (B w)+1+1) (z (z w (N #[Y (Q (T b off Z)) n j_] 37)) (N #[Y Z 0 0] 37))).alloc (by simp) (N #[] 102));have H:=ae (o.aa q (by simp));go_wp2_with (at_builtin;refine DN _ rfl (.tmp 3) (.tmp 5) 35 rfl (A (B w)+1+1) 102 u (ZJ #[J I 0,U ⟨#[]⟩,J I 0]) 3 32 QD hi t x ZW rfl (by decide) (Y (Q (T (A (B w)+1+1) 0 Z)) 0 0) 0 [] (by simp[Act.eval]) (by have:=OU (base:=A (B w)+1+1) (e:=102) (size:=3) (z (z w (N #[Y (Q (T b off Z)) n j_] 37)) (N #[Y Z 0 0] 37)) #[] 0 (by simp) (by unfold maxLen;omega) rfl;simpa using this) (T b off Z) n j_ (bZ f n) (by simp[Act.eval]) (lP f n) (rz H) (us f n) (by unfold maxLen;omega) (by omega) (by simp<;>omega) ?_;intro C w2 h i l;simp only[IT,NR] at h;obtain⟨g,c,rfl⟩:∃g c,C=Y (Q (T g 0 Z)) n c:=(by rcases h.2 with⟨rfl,_⟩|⟨g,c,cur,rfl,_⟩;(have:=l.1 rfl;simp at this);exact⟨g,c,rfl⟩);have m:=ae (bg q i (by simp<;>omega) (λj e=>by simp[Value.ownBlock] at e;omega));have G:=ae (ZY.k (m.P (by omega)));have ZT:=(m.O (p:=(T (A (B w)+1) 0 Z)) (by simp)).k r;have lz:=(m.frozen (p:=(T (A (B w)+1) 0 Z)) (by simp)).k z0;have D:=ae (aE (aH (R:=A (B w)+1) (j:=0) h (by omega) (Y (Q (T g 0 Z)) n c)) (base':=A (B w)) (by omega));clear h i l r ZX z0);exact bp (v:=ZJ #[Y (Q (T g 0 Z)) n c]) (by simp[results,results44,go_sem,ZT]) rfl ⟨g,c,rfl,D,G.setCell (by simp) _⟩
def bF (x:Source):List ZB:=[U x.e,U x.H]
def tJ (a:O_)(j_:Nat)(w:E):Qw Pg 44 #[ZJ #[Y a 0 j_]] w λe s=>∃g c,e=ZI (ZJ #[Y (Q (T g 0 Z)) 0 c])/\s.ownsRow (A (B w)) 102 3 (Y (Q (T g 0 Z)) 0 c) 0 []/\Below (A (B w)) w s:=by
 have hz:A (B (z (z w (N #[Y a 0 j_] 37)) (N #[Y (Q (T (A (B w)+1+1) 0 Z)) 0 0] 37)))=A (B w)+1+1:=by simp
 have q:=ae ((((BS w).alloc ly (N #[Y a 0 j_] 37)).alloc (by simp) (N #[Y (Q (T (A (B w)+1+1) 0 Z)) 0 0] 37)).alloc (by rw[hz];omega) (N #[] 102));have ZY:Hid ((z (z (z w (N #[Y a 0 j_] 37)) (N #[Y (Q (T (A (B w)+1+1) 0 Z)) 0 0] 37)) (N #[] 102)).ownsRow (A (B w)) 102 3 (Y (Q (T (A (B w)+1+1) 0 Z)) 0 0) 0 []):=by have h:=OU (base:=A (B w)) (e:=102) (size:=3) (z (z w (N #[Y a 0 j_] 37)) (N #[Y (Q (T (A (B w)+1+1) 0 Z)) 0 0] 37)) #[] 0 (by rw[hz];omega) (by unfold maxLen;omega) rfl;rw[hz] at h;exact h
 have m:ZU (z (z w (N #[Y a 0 j_] 37)) (N #[Y Z 0 0] 37)) (T (A (B w)+1) 0 Z)=Q (Y Z 0 0):=by simp
 have r:ZU (z (z w (N #[Y a 0 j_] 37)) (N #[Y Z 0 0] 37)) (T (A (B w)) 0 Z)=Q (Y a 0 j_):=by simp
 have z0:(z (z w (N #[Y a 0 j_] 37)) (N #[Y Z 0 0] 37)).frozen? (T (A (B w)+1) 0 Z)=ZA:=by simp
 cases a with
 |none =>clear m r z0;go_enter func44,ntmps44;go_wp2;exact bp (v:=ZJ #[Y (Q (T (A (B w)+1+1) 0 Z)) 0 0]) (by simp[results,results44,go_sem]) rfl ⟨_,_,rfl,ZY,q⟩
 |some l =>
  have G:=ae (((BS w).alloc ly (N #[Y (Q l) 0 j_] 37)).alloc (by simp) (N #[Y Z 0 0] 37));have hz2:A (B (z (z w (N #[Y (Q l) 0 j_] 37)) (N #[Y Z 0 0] 37)))=A (B w)+1+1:=by simp
  obtain⟨x,hi,t,y,ZW⟩:=NO ou;have H:=ae ((a8 (A (B w)+1+1) (z (z w (N #[Y (Q l) 0 j_] 37)) (N #[Y Z 0 0] 37))).alloc (by simp) (N #[] 102));clear q ZY hz;go_enter func44,ntmps44;go_wp2_with (at_builtin;refine DN _ rfl (.tmp 3) (.tmp 5) 35 rfl (A (B w)+1+1) 102 x (ZJ #[J I 0,U ⟨#[]⟩,J I 0]) 3 32 QD hi t y ZW rfl (by decide) (Y (Q (T (A (B w)+1+1) 0 Z)) 0 0) 0 [] (by simp[Act.eval]) (by have:=OU (base:=A (B w)+1+1) (e:=102) (size:=3) (z (z w (N #[Y (Q l) 0 j_] 37)) (N #[Y Z 0 0] 37)) #[] 0 (by simp) (by unfold maxLen;omega) rfl;simpa using this) l 0 j_ [] (by simp[Act.eval]) rfl (λj u o=>by simp at o) (λu o=>by simp at o) (by unfold maxLen;omega) (by omega) (by simp<;>omega) ?_;intro ZX w2 b f i;simp only[IT,NR] at b;obtain⟨g,c,rfl⟩:∃g c,ZX=Y (Q (T g 0 Z)) 0 c:=(by rcases b.2 with⟨rfl,_⟩|⟨g,c,cur,rfl,_⟩;(have:=i.1 rfl;simp at this);exact⟨g,c,rfl⟩);have n:=ae (bg H f (by simp<;>omega) (λj e=>by simp[Value.ownBlock] at e;omega));have ZT:=ae (G.k (n.P (by omega)));have D:=(n.O (p:=(T (A (B w)+1) 0 Z)) (by simp)).k m;have lz:=(n.frozen (p:=(T (A (B w)+1) 0 Z)) (by simp)).k z0;have C:=ae (aE (aH (R:=A (B w)+1) (j:=0) b (by omega) (Y (Q (T g 0 Z)) 0 c)) (base':=A (B w)) (by omega));clear b f i m r z0);exact bp (v:=ZJ #[Y (Q (T g 0 Z)) 0 c]) (by simp[results,results44,go_sem,D]) rfl ⟨g,c,rfl,C,ZT.setCell (by simp) _⟩
def jf (a:O_)(n j_:Nat)(f:Nat->Ins)(w:E)(hn:(n:Int)<=1048576)(h:SlIns w a n f):Qw Pg 44 #[ZJ #[Y a n j_]] w λe i=>∃g c,e=ZI (ZJ #[Y (Q (T g 0 Z)) n c])/\i.ownsRow (A (B w)) 102 3 (Y (Q (T g 0 Z)) n c) n (bZ f n)/\Below (A (B w)) w i:=by
 rcases h with rfl|⟨b,off,rfl,h⟩
 {exact tJ a j_ w};{exact je b off n j_ f w hn h}
