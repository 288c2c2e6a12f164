import Derived.Test.YtcnilonhfpimnaaGreatDoorGM
import Derived.Lib.SliceRun
import Derived.Lib.ItoaNum
import Derived.Lib.ItoaLen
import Derived.Lib.ItoaMem
import Derived.Lib.SmallJoins
set_option linter.all false
set_option maxRecDepth 100000
set_option maxHeartbeats 2000000
open Go renaming Addr.mk->T,Value.slice->Z,Value.string->U,Value.int->J,Value.agg->ZJ,Obj.cells->N,IntKind.i64->I,World->E,Value->ZB,TypeId->ZK,Ending.returned->ZI,World.heap->A,World.ownsRow->ZV,World.alloc->z,World.cell?->ZU,Proofs.Tryz.prog->Pg
open Option renaming none->Y,some->Q
open Bool renaming false->ZA
open Array renaming size->B
namespace Go.Proofs.YtcnilonhfpimnaaGreatDoor.Vp
open Tryz RowKit
variable {n g size j_ b j:Nat}{w:E}{e:ZK}{f:Nat->Ins}{i:List ZB}
def Cells (w:E)(b off m:Nat)(F:Nat->ZB):Prop:=b<B (A w)/\∀j,j<m->ZU w (T b (off+j) Y)=Q (F j)/\w.frozen? (T b (off+j) Y)=ZA
structure Touch (P:Nat->Prop)(w w':E):Prop where
 os:w'.os=w.os
 tape:w'.tape=w.tape
 output:w'.output=w.output
 size:B (A w)<=B (A w')
 p:∀k,k<B (A w)->¬ P k->w'.heap[k]?=w.heap[k]?
def uq (x:Int)(b:UInt8)(h:x=b.toNat)(w:E)(g:Nat)(f:ZU w (T g 0 Y)=Q (J .u8 x)):(convert 22 9 (Z (Q (T g 0 Y)) 1 1)).run Pg w=.ok (U ⟨#[b]⟩) w:=by
 refine VU _ 22 9 5 (T g 0 Y) 1 [b] Q3 PQ E4 ?_;intro j i;obtain rfl:j=0:=by simpa using i
 simp[Addr.add,f,h]
def dig (n:Nat):UInt8:=UInt8.ofNat (48+n)
def digit (n:Nat)(h:n<10):(48+(n:Int))=(dig n).toNat:=by unfold dig;rw[UInt8.toNat_ofNat'];omega
def ry (h:¬ n<10):Lib.decDigits n=Lib.decDigits (n / 10)++[dig (n % 10)]:=by rw[Lib.decDigits,dif_neg h];rfl
def iK (n:Nat)(h:n<10)(w:E):Calls Pg 54 #[J I n] w λe b=>e=ZI (U ⟨#[dig n]⟩)/\Below (B (A w)) w b:=by have hcv:=uq (48+(n:Int)) _ (digit n h);go_enter func54,ntmps54;go_wp2;go_ret;exact⟨rfl,br.alloc ly _⟩
def sA (n:Nat):n<=9223372036854775807->∀w:E,
  Calls Pg 54 #[J I n] w λe g=>e=ZI (U ⟨(Lib.decDigits n).toArray⟩)/\Below (B (A w)) w g:=by
 induction n using Nat.strongRecOn with
 |ind n i =>
  intro hn w;by_cases h:n<10;{rw[Lib.decDigits_one h];exact iK n h w}
  ·have f:∀w:E,Calls Pg 54 #[J I ((n:Int) / 10)] w λe g=>e=ZI (U ⟨(Lib.decDigits (n / 10)).toArray⟩)/\Below (B (A w)) w g:=λw=>i (n / 10) (by omega) (by omega) w;have j:=ae f;clear i f;have hcv:=uq (48+(n:Int) % 10) (dig (n % 10)) (by have:=digit (n % 10) (by omega);omega);have q1:IntKind.i64.wrap ((n:Int) / 10)=(n:Int) / 10:=by rw[nL];omega
   have q2:IntKind.i64.wrap ((n:Int) % 10)=(n:Int) % 10:=by rw[nL];omega
   have q3:IntKind.i64.wrap (48+(n:Int) % 10)=48+(n:Int) % 10:=by rw[nL];omega
   have q5:(n:Int).tmod 10=(n:Int) % 10:=RY (by omega);have hl:(Lib.decDigits (n / 10)).length<=21:=by rw[<-Lib.itoa_nonneg];exact Lib.itoa_length_le _ (by omega) (by omega)
   have q4:IntKind.u8.wrap (48+(n:Int) % 10)=48+(n:Int) % 10:=by rw[XG];omega
   go_enter func54,ntmps54;go_wp2_with fail;go_region_with (go_at_call 54;refine(j _).P ?_;rintro e w1⟨rfl,b⟩;have hc1:=(Jl b).1);all_goals
    go_wp2;go_ret;refine⟨gH ?_,?_⟩
    ·rw[ry h]
     apply YU;simp
    ·first
      |exact(br.drew.k b).alloc b.size _
      |exact((br.alloc ly _).drew).k (b.P (by simp))
def IA (k:Nat):UInt8:=([48,49,50,51,52,53,54,55,56,57,97,98,99,100,101,102]:List UInt8).getD k 0
def Jz (c:UInt8):List UInt8:=[IA (c.toNat / 16),IA (c.toNat % 16)]
def IB (c:UInt8):Bool:=decide (32<=c.toNat/\c.toNat<=126/\c.toNat≠34/\c.toNat≠92)
def enc (c:UInt8):List UInt8:=if IB c=true then [c] else 92::Jz c
def GQ (n:Nat)(h:n<=2000):(Lib.decDigits n).length<=21:=by rw[<-Lib.itoa_nonneg];exact Lib.itoa_length_le _ (by omega) (by omega)
def zb (x y ZY:Int)(a b c:UInt8)(m:x=a.toNat)(i:y=b.toNat)(hz:ZY=c.toNat)(w:E)(g:Nat)(l:ZU w (T g 0 Y)=Q (J .u8 x))(h1:ZU w (T g 1 Y)=Q (J .u8 y))(h2:ZU w (T g 2 Y)=Q (J .u8 ZY)):(convert 22 9 (Z (Q (T g 0 Y)) 3 3)).run Pg w=.ok (U ⟨#[a,b,c]⟩) w:=by
 refine VU _ 22 9 5 (T g 0 Y) 3 [a,b,c] Q3 PQ E4 ?_;intro j f;have f:j<3:=f;match j,f with
 |0,_=>simp[Addr.add,l,m]
 |1,_=>simp[Addr.add,h1,i]
 |2,_=>simp[Addr.add,h2,hz]
 |k+3,h=>exact absurd h (by omega)
def JA (i:Nat)(h:i<1000):(∀(w:E) (g:Nat),ZU w (T g 0 Y)=Q (J .u8 (48+(i:Int) / 100))->ZU w (T g 1 Y)=Q (J .u8 (48+(i:Int) / 10 % 10))->ZU w (T g 2 Y)=Q (J .u8 (48+(i:Int) % 10))->(convert 22 9 (Z (Q (T g 0 Y)) 3 3)).run Pg w=.ok (U ⟨#[dig (i / 100),dig (i / 10 % 10),dig (i % 10)]⟩) w)/\IntKind.i64.wrap ((i:Int) / 100)=(i:Int) / 100/\IntKind.i64.wrap ((i:Int) / 10)=(i:Int) / 10/\IntKind.i64.wrap ((i:Int) / 10 % 10)=(i:Int) / 10 % 10/\IntKind.i64.wrap ((i:Int) % 10)=(i:Int) % 10/\(i:Int).tmod 10=(i:Int) % 10/\((i:Int) / 10).tmod 10=(i:Int) / 10 % 10/\IntKind.i64.wrap (48+(i:Int) / 100)=48+(i:Int) / 100/\IntKind.i64.wrap (48+(i:Int) / 10 % 10)=48+(i:Int) / 10 % 10/\IntKind.i64.wrap (48+(i:Int) % 10)=48+(i:Int) % 10/\IntKind.u8.wrap (48+(i:Int) / 100)=48+(i:Int) / 100/\IntKind.u8.wrap (48+(i:Int) / 10 % 10)=48+(i:Int) / 10 % 10/\IntKind.u8.wrap (48+(i:Int) % 10)=48+(i:Int) % 10:=
 ⟨zb (48+(i:Int) / 100) (48+(i:Int) / 10 % 10) (48+(i:Int) % 10) (dig (i / 100)) (dig (i / 10 % 10)) (dig (i % 10)) (by have:=digit (i / 100) (by omega);omega) (by have:=digit (i / 10 % 10) (by omega);omega) (by have:=digit (i % 10) (by omega);omega),(by rw[nL];omega),(by rw[nL];omega),(by rw[nL];omega),(by rw[nL];omega),RY (by omega),RY (by omega),(by rw[nL];omega),(by rw[nL];omega),(by rw[nL];omega),(by rw[XG];omega),(by rw[XG];omega),(by rw[XG];omega)⟩
def iL (i:Nat)(h:i<1000)(w:E):Calls Pg 56 #[J I i] w λe b=>∃s:F_,e=ZI (U s)/\s.size<=4/\Below (B (A w)) w b:=by obtain⟨hcv,q1,q2,q3,q4,q5,q6,r1,r2,r3,s1,s2,s3⟩:=JA i h;go_enter func56,ntmps56;go_wp2;go_ret;refine⟨_,rfl,?_,br.alloc ly _⟩;simp only[PV];exact p7 4
def addr_add (b off j:Nat):((T b off Y):Addr).add j=(T b (off+j) Y):=by unfold Addr.add;split<;>simp_all
def cT {f:Type}(g:f->List ZB)(C:Nat)(b:∀x,(g x).length=C):∀(L:List f) (i j:Nat) (_:j<C) (x:f),L[i]?=Q x->(L.flatMap g)[i*C+j]?=(g x)[j]?
 |[],i,j,_,x,h=>by simp at h
 |y::L,0,j,hj,x,h=>by simp at h;subst h;rw[N9,UR,I5,NI (by rw[b];exact hj)]
 |y::L,i+1,j,hj,x,h=>by simp at h;rw[N9,KK (by rw[b,Nat.succ_mul];omega),b,show(i+1)*C+j - C=i*C+j by rw[Nat.succ_mul];omega];exact cT g C b L i j hj x h
def fA {f:Type}(g:f->List ZB)(C:Nat)(b:∀x,(g x).length=C):∀L:List f,(L.flatMap g).length=L.length*C
 |[]=>by simp
 |y::L=>by rw[N9,cM,b,fA g C b L,vF,Nat.succ_mul];omega
def lO (x:Ins):List ZB:=[J I x.op,U x.s,J I x.n]
def bZ (f:Nat->Ins)(n:Nat):List ZB:=((List.range n).map f).flatMap lO
def lP (f:Nat->Ins)(n:Nat):(bZ f n).length=n*3:=by rw[bZ,fA lO 3 (λ_=>rfl)];simp
def oy (f:Nat->Ins){i:Nat}(hi:i<n)(j:Nat)(b:j<3):(bZ f n)[i*3+j]?=(lO (f i))[j]? :=
 cT lO 3 (λ_=>rfl) _ i j b (f i) (by simp[hi])
def us (f:Nat->Ins)(n:Nat):∀u∈bZ f n,u.oneCell'=true:=by intro u g;simp only[bZ,QR,lO] at g;obtain⟨x,_,b⟩:=g;simp at b;rcases b with rfl|rfl|rfl<;>simp[Value.oneCell']
def rz{off:Nat}(h:Qj w b off n f):∀j u,(bZ f n)[j]?=Q u->w.cell? (((T b off Y):Addr).add j)=Q u:=by
 intro j u g;have hl:j<n*3:=by have:=(j5.1 g).1;rwa[lP] at this
 have e:j=j / 3*3+j % 3:=by omega
 have hi:j / 3<n:=by omega
 obtain⟨i,h1,h2⟩:=h.2 (j / 3) hi;have l:j % 3<3:=UJ _ (by omega);rw[e,oy f hi (j % 3) l] at g;have m:((T b off Y):Addr).add j=(T b (off+j) Y):=addr_add _ _ _;rw[m];rcases(show j % 3=0\/j % 3=1\/j % 3=2 by omega) with q|q|q;all_goals rw[q] at g;simp[lO] at g;subst g
 {rw[show off+j=off+j / 3*3 by omega];exact i};{rw[show off+j=off+j / 3*3+1 by omega];exact h1};{rw[show off+j=off+j / 3*3+2 by omega];exact h2}
def bA{f:Nat}(h:ZV w f e size (Z (Q (T g 0 Y)) n j_) n i){u:ZB}(o:i[j]?=Q u):ZU w (T g j Y)=Q u/\w.frozen? (T g j Y)=ZA:=by
 refine⟨?_,?_⟩
 ·have:=h.cells (g:=g) rfl j u o;have l:((T g 0 Y):Addr).add j=(T g j Y):=by rw[addr_add];simp
  rwa[l] at this
 ·rcases h.2 with⟨b,_⟩|⟨g',cap',cur,b,_,m,_⟩
  {simp at b};{simp at b;obtain⟨rfl,rfl⟩:=b;simp[World.frozen?,m]}
def cV{f:List ZB}(h:ZV w b e size (Z (Q (T g 0 Y)) n j_) n f):b<=g/\g<B (A w):=h.lt g rfl
def Qk (w:E)(g:Nat)(e:ZK):Prop:=∃b,w.heap[g]?=Q (N b e (0,0))
def jH{f:Nat}{l:List ZB}(h:ZV w f e size (Z (Q (T g 0 Y)) n j_) n l):Qk w g e:=by
 rcases h.2 with⟨b,_⟩|⟨g',cap',i,b,_,j,_⟩
 {simp at b};{simp at b;obtain⟨rfl,rfl⟩:=b;exact⟨i,j⟩}
def fc{k:Nat}{i:ZK}(h:Qk w g e)(j:Qk w k i)(f:e≠i):g≠k:=by rintro rfl;obtain⟨c,l⟩:=h;obtain⟨d,b⟩:=j;rw[l] at b;simp at b;exact f b.2
def aH{R:Nat}{v:ZB}(h:ZV w b e size v n i)(hR:R<b)(u:ZB):(w.setCell (T R j Y) u).ownsRow b e size v n i:=by
 refine h.kept (row:=Q R) ⟨rfl,rfl,rfl,by simp[World.setCell],λk _ f=>qh _ _ _ _ (by simpa using f)⟩ ?_;rcases h.2 with⟨rfl,_⟩|⟨g,j_,cur,rfl,hg,_⟩
 {exact .inl rfl};{right;simp[Value.ownBlock];omega}
def kY{l:Nat}(h:ZV w l 102 3 (Z (Q (T g 0 Y)) n j_) n (bZ f n)):Qj w g 0 n f/\∃F,Cells w g 0 (n*3) F:=by
 have b:=(cV h).2;refine⟨⟨b,λi hi=>⟨?_,?_,?_⟩⟩,λj=>(bZ f n)[j]?.getD undef,b,λj o=>?_⟩;{have:=(bA h (j:=i*3) (u:=J I (f i).op) (by have:=oy f hi 0 (by omega);simpa[lO] using this)).1;rwa[show 0+i*3=i*3 by omega]};{have:=(bA h (j:=i*3+1) (u:=U (f i).s) (by have:=oy f hi 1 (by omega);simpa[lO] using this)).1;rwa[show 0+i*3+1=i*3+1 by omega]};{have:=(bA h (j:=i*3+2) (u:=J I (f i).n) (by have:=oy f hi 2 (by omega);simpa[lO] using this)).1;rwa[show 0+i*3+2=i*3+2 by omega]}
 ·rw[I5];have m:j<(bZ f n).length:=by rw[lP];exact o
  have:=bA h (j:=j) (u:=(bZ f n)[j]) (by rw[gq m]);show w.cell? _=Q ((bZ f n)[j]?.getD undef)/\_;rw[gq m];exact this
def AR (b off n j_:Nat)(f:Nat->Ins)(w:E)(hn:(n:Int)<=1048576)(t:Qj w b off n f):Calls Pg 152 #[Z (Q (T b off Y)) n j_] w λe u=>∃g c,e=ZI (Z (Q (T g 0 Y)) n c)/\u.ownsRow (B (A w)) 102 3 (Z (Q (T g 0 Y)) n c) n (bZ f n)/\Below (B (A w)) w u:=by
 have r:=ae ((BS w).alloc ly (N #[] 102));have x:=ae (t.aa r ly);clear t;obtain⟨p,hi,q,m,o⟩:=NP ou;have hnl:∀w:E,(binOp .eql 35 (Z (Q (T b off Y)) n j_) (Z Y 0 0)).run Pg w=.ok (.bool ZA) w:=λw=>Lib.run_eql_slice_nil w _ _ _ _ _ _ _ QE;go_enter func152,ntmps152;go_wp2_with (at_builtin;refine DN _ rfl (.tmp 5) (.tmp 6) 35 rfl (B (A w)) 102 p (ZJ #[J I 0,U ⟨#[]⟩,J I 0]) 3 32 QE hi q m o rfl (by decide) (Z (Q (T (B (A w)) 0 Y)) 0 0) 0 [] (by simp[Act.eval]) (OV w #[] 0 ly (by unfold maxLen;omega) rfl) (T b off Y) n j_ (bZ f n) (by simp[Act.eval]) (lP f n) (rz x) (us f n) (by unfold maxLen;omega) (by omega) (by simp) ?_;intro v' w2 h i l;simp only[I5,NS] at h;have s:=ae h;have ZY:=ae l;have y:=ae (bg r i (by simp) (λj e=>by simp[Value.ownBlock] at e;omega));clear h i l);go_ret;rcases s.2 with⟨rfl,_⟩|⟨g,c,cur,rfl,_⟩
 {have:=ZY.1 rfl;simp at this};{exact⟨g,c,rfl,s,y⟩}
def qe (b off n j_:Nat)(f:Nat->Ins)(w:E)(hn:(n:Int)<=1048576)(o:Qj w b off n f):Calls Pg 118 #[ZJ #[Z (Q (T b off Y)) n j_]] w λe q=>∃g c,e=ZI (ZJ #[Z (Q (T g 0 Y)) n c])/\q.ownsRow (B (A w)) 102 3 (Z (Q (T g 0 Y)) n c) n (bZ f n)/\Below (B (A w)) w q:=by
 have m:=ae (((BS w).alloc ly (N #[Z (Q (T b off Y)) n j_] 37)).alloc (by simp) (N #[Z Y 0 0] 37));have s:=ae (o.aa m ly);have i:ZU (z (z w (N #[Z (Q (T b off Y)) n j_] 37)) (N #[Z Y 0 0] 37)) (T (B (A w)+1) 0 Y)=Q (Z Y 0 0):=by simp
 clear o;go_enter func118,ntmps118;go_wp2_with fail;refine(AR b off n j_ f _ hn s).P ?_;rintro e u⟨g,c,rfl,l,h⟩;have x:=(h.O (p:=(T (B (A w)+1) 0 Y)) (by simp)).k i;have r:=ae (aE (aH (R:=B (A w)+1) (j:=0) l (by simp) (Z (Q (T g 0 Y)) n c)) (base':=B (A w)) (by simp;omega));have t:=ae ((m.k (h.P (by simp;omega))).setCell (p:=(T (B (A w)+1) 0 Y)) (by simp) (Z (Q (T g 0 Y)) n c));have z0:u.frozen? (T (B (A w)+1) 0 Y)=ZA:=(h.frozen (p:=(T (B (A w)+1) 0 Y)) (by simp)).k (by simp);clear l h i;go_wp2;exact bp (v:=ZJ #[Z (Q (T g 0 Y)) n c]) (by simp[results,results118,go_sem,x]) rfl ⟨g,c,rfl,r,t⟩
def je (b off n j_:Nat)(f:Nat->Ins)(w:E)(hn:(n:Int)<=1048576)(s:Qj w b off n f):Calls Pg 44 #[ZJ #[Z (Q (T b off Y)) n j_]] w λe y=>∃g c,e=ZI (ZJ #[Z (Q (T g 0 Y)) n c])/\y.ownsRow (B (A w)) 102 3 (Z (Q (T g 0 Y)) n c) n (bZ f n)/\Below (B (A w)) w y:=by
 have ZX:=ae (((BS w).alloc ly (N #[Z (Q (T b off Y)) n j_] 37)).alloc (by simp) (N #[Z Y 0 0] 37));have u:ZU (z (z w (N #[Z (Q (T b off Y)) n j_] 37)) (N #[Z Y 0 0] 37)) (T (B (A w)+1) 0 Y)=Q (Z Y 0 0):=by simp
 have C:ZU (z (z w (N #[Z (Q (T b off Y)) n j_] 37)) (N #[Z Y 0 0] 37)) (T (B (A w)) 0 Y)=Q (Z (Q (T b off Y)) n j_):=by simp
 have z0:(z (z w (N #[Z (Q (T b off Y)) n j_] 37)) (N #[Z Y 0 0] 37)).frozen? (T (B (A w)+1) 0 Y)=ZA:=by simp
 have hz:B (A (z (z w (N #[Z (Q (T b off Y)) n j_] 37)) (N #[Z Y 0 0] 37)))=B (A w)+1+1:=by simp
 have r:=ae (s.aa ZX ly);clear s;obtain⟨o,hi,x,ZY,t⟩:=NP ou;go_enter func44,ntmps44;have q:=ae ((a8 (B (A w)+1+1) (z (z w (N #[Z (Q (T b off Y)) n j_] 37)) (N #[Z Y 0 0] 37))).alloc (by simp) (N #[] 102));have ZW:=ae (r.aa q (by simp));go_wp2_with (at_builtin;refine DN _ rfl (.tmp 3) (.tmp 5) 35 rfl (B (A w)+1+1) 102 o (ZJ #[J I 0,U ⟨#[]⟩,J I 0]) 3 32 QE hi x ZY t rfl (by decide) (Z (Q (T (B (A w)+1+1) 0 Y)) 0 0) 0 [] (by simp[Act.eval]) (by have:=OV (base:=B (A w)+1+1) (e:=102) (size:=3) (z (z w (N #[Z (Q (T b off Y)) n j_] 37)) (N #[Z Y 0 0] 37)) #[] 0 (by simp) (by unfold maxLen;omega) rfl;simpa using this) (T b off Y) n j_ (bZ f n) (by simp[Act.eval]) (lP f n) (rz ZW) (us f n) (by unfold maxLen;omega) (by omega) (by simp<;>omega) ?_;intro ZT w2 h i l;simp only[I5,NS] at h;obtain⟨g,c,rfl⟩:∃g c,ZT=Z (Q (T g 0 Y)) n c:=(by rcases h.2 with⟨rfl,_⟩|⟨g,c,cur,rfl,_⟩;(have:=l.1 rfl;simp at this);exact⟨g,c,rfl⟩);have m:=ae (bg q i (by simp<;>omega) (λj e=>by simp[Value.ownBlock] at e;omega));have G:=ae (ZX.k (m.P (by omega)));have H:=(m.O (p:=(T (B (A w)+1) 0 Y)) (by simp)).k u;have lz:=(m.frozen (p:=(T (B (A w)+1) 0 Y)) (by simp)).k z0;have D:=ae (aE (aH (R:=B (A w)+1) (j:=0) h (by omega) (Z (Q (T g 0 Y)) n c)) (base':=B (A w)) (by omega));clear h i l u C z0);exact bp (v:=ZJ #[Z (Q (T g 0 Y)) n c]) (by simp[results,results44,go_sem,H]) rfl ⟨g,c,rfl,D,G.setCell (by simp) _⟩
def bF (x:Source):List ZB:=[U x.e,U x.H]
def tJ (a:O_)(j_:Nat)(w:E):Calls Pg 44 #[ZJ #[Z a 0 j_]] w λe y=>∃g c,e=ZI (ZJ #[Z (Q (T g 0 Y)) 0 c])/\y.ownsRow (B (A w)) 102 3 (Z (Q (T g 0 Y)) 0 c) 0 []/\Below (B (A w)) w y:=by
 have hz:B (A (z (z w (N #[Z a 0 j_] 37)) (N #[Z (Q (T (B (A w)+1+1) 0 Y)) 0 0] 37)))=B (A w)+1+1:=by simp
 have r:=ae ((((BS w).alloc ly (N #[Z a 0 j_] 37)).alloc (by simp) (N #[Z (Q (T (B (A w)+1+1) 0 Y)) 0 0] 37)).alloc (by rw[hz];omega) (N #[] 102));have ZX:Hid ((z (z (z w (N #[Z a 0 j_] 37)) (N #[Z (Q (T (B (A w)+1+1) 0 Y)) 0 0] 37)) (N #[] 102)).ownsRow (B (A w)) 102 3 (Z (Q (T (B (A w)+1+1) 0 Y)) 0 0) 0 []):=by have h:=OV (base:=B (A w)) (e:=102) (size:=3) (z (z w (N #[Z a 0 j_] 37)) (N #[Z (Q (T (B (A w)+1+1) 0 Y)) 0 0] 37)) #[] 0 (by rw[hz];omega) (by unfold maxLen;omega) rfl;rw[hz] at h;exact h
 have n:ZU (z (z w (N #[Z a 0 j_] 37)) (N #[Z Y 0 0] 37)) (T (B (A w)+1) 0 Y)=Q (Z Y 0 0):=by simp
 have t:ZU (z (z w (N #[Z a 0 j_] 37)) (N #[Z Y 0 0] 37)) (T (B (A w)) 0 Y)=Q (Z a 0 j_):=by simp
 have z0:(z (z w (N #[Z a 0 j_] 37)) (N #[Z Y 0 0] 37)).frozen? (T (B (A w)+1) 0 Y)=ZA:=by simp
 cases a with
 |none =>clear n t z0;go_enter func44,ntmps44;go_wp2;exact bp (v:=ZJ #[Z (Q (T (B (A w)+1+1) 0 Y)) 0 0]) (by simp[results,results44,go_sem]) rfl ⟨_,_,rfl,ZX,r⟩
 |some l =>
  have ZT:=ae (((BS w).alloc ly (N #[Z (Q l) 0 j_] 37)).alloc (by simp) (N #[Z Y 0 0] 37));have hz2:B (A (z (z w (N #[Z (Q l) 0 j_] 37)) (N #[Z Y 0 0] 37)))=B (A w)+1+1:=by simp
  obtain⟨q,hi,x,ZY,s⟩:=NP ou;have ZW:=ae ((a8 (B (A w)+1+1) (z (z w (N #[Z (Q l) 0 j_] 37)) (N #[Z Y 0 0] 37))).alloc (by simp) (N #[] 102));clear r ZX hz;go_enter func44,ntmps44;go_wp2_with (at_builtin;refine DN _ rfl (.tmp 3) (.tmp 5) 35 rfl (B (A w)+1+1) 102 q (ZJ #[J I 0,U ⟨#[]⟩,J I 0]) 3 32 QE hi x ZY s rfl (by decide) (Z (Q (T (B (A w)+1+1) 0 Y)) 0 0) 0 [] (by simp[Act.eval]) (by have:=OV (base:=B (A w)+1+1) (e:=102) (size:=3) (z (z w (N #[Z (Q l) 0 j_] 37)) (N #[Z Y 0 0] 37)) #[] 0 (by simp) (by unfold maxLen;omega) rfl;simpa using this) l 0 j_ [] (by simp[Act.eval]) rfl (λj u m=>by simp at m) (λu m=>by simp at m) (by unfold maxLen;omega) (by omega) (by simp<;>omega) ?_;intro D w2 b f i;simp only[I5,NS] at b;obtain⟨g,c,rfl⟩:∃g c,D=Z (Q (T g 0 Y)) 0 c:=(by rcases b.2 with⟨rfl,_⟩|⟨g,c,cur,rfl,_⟩;(have:=i.1 rfl;simp at this);exact⟨g,c,rfl⟩);have o:=ae (bg ZW f (by simp<;>omega) (λj e=>by simp[Value.ownBlock] at e;omega));have G:=ae (ZT.k (o.P (by omega)));have H:=(o.O (p:=(T (B (A w)+1) 0 Y)) (by simp)).k n;have lz:=(o.frozen (p:=(T (B (A w)+1) 0 Y)) (by simp)).k z0;have C:=ae (aE (aH (R:=B (A w)+1) (j:=0) b (by omega) (Z (Q (T g 0 Y)) 0 c)) (base':=B (A w)) (by omega));clear b f i n t z0);exact bp (v:=ZJ #[Z (Q (T g 0 Y)) 0 c]) (by simp[results,results44,go_sem,H]) rfl ⟨g,c,rfl,C,G.setCell (by simp) _⟩
def jf (a:O_)(n j_:Nat)(f:Nat->Ins)(w:E)(hn:(n:Int)<=1048576)(h:SlIns w a n f):Calls Pg 44 #[ZJ #[Z a n j_]] w λe i=>∃g c,e=ZI (ZJ #[Z (Q (T g 0 Y)) n c])/\i.ownsRow (B (A w)) 102 3 (Z (Q (T g 0 Y)) n c) n (bZ f n)/\Below (B (A w)) w i:=by
 rcases h with rfl|⟨b,off,rfl,h⟩
 {exact tJ a j_ w};{exact je b off n j_ f w hn h}
