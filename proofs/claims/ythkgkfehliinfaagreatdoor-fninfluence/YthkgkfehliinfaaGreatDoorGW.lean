import Derived.Test.YthkgkfehliinfaaGreatDoorGM
import Derived.Lib.SliceRun
import Derived.Lib.ItoaNum
import Derived.Lib.ItoaLen
import Derived.Lib.ItoaMem
import Derived.Lib.SmallJoins
set_option linter.all false
set_option maxRecDepth 100000
set_option maxHeartbeats 2000000
open Go renaming Addr.mk->Q,Value.slice->Y,Value.string->U,Value.int->J,Value.agg->ZJ,Obj.cells->N,IntKind.i64->I,World->E,Value->ZB,TypeId->ZK,Ending.returned->ZI,World.heap->A,World.ownsRow->ZV,World.alloc->z,World.cell?->ZU,Proofs.Tryz.prog->Pg
open Option renaming none->Z,some->T
open Bool renaming false->ZA
open Array renaming size->B
namespace Go.Proofs.YthkgkfehliinfaaGreatDoor.Vp
open Tryz RowKit
variable {n g size j_ b j:Nat}{w:E}{e:ZK}{f:Nat->Ins}
def Cells (w:E)(b off m:Nat)(F:Nat->ZB):Prop:=b<B (A w)/\∀j,j<m->ZU w (Q b (off+j) Z)=T (F j)/\w.frozen? (Q b (off+j) Z)=ZA
structure Touch (P:Nat->Prop)(w w':E):Prop where
 os:w'.os=w.os
 tape:w'.tape=w.tape
 output:w'.output=w.output
 size:B (A w)<=B (A w')
 p:∀k,k<B (A w)->¬ P k->w'.heap[k]?=w.heap[k]?
def uq (x:Int)(b:UInt8)(h:x=b.toNat)(w:E)(g:Nat)(f:ZU w (Q g 0 Z)=T (J .u8 x)):(convert 22 9 (Y (T (Q g 0 Z)) 1 1)).run Pg w=.ok (U ⟨#[b]⟩) w:=by
 refine VU _ 22 9 5 (Q g 0 Z) 1 [b] Q3 PQ ES ?_;intro j i;obtain rfl:j=0:=by simpa using i
 simp[Addr.add,f,h]
def dig (n:Nat):UInt8:=UInt8.ofNat (48+n)
def digit (n:Nat)(h:n<10):(48+(n:Int))=(dig n).toNat:=by unfold dig;rw[UInt8.toNat_ofNat'];omega
def ry (h:¬ n<10):Lib.decDigits n=Lib.decDigits (n / 10)++[dig (n % 10)]:=by rw[Lib.decDigits,dif_neg h];rfl
def iK (n:Nat)(h:n<10)(w:E):Calls Pg 69 #[J I n] w λe b=>e=ZI (U ⟨#[dig n]⟩)/\Below (B (A w)) w b:=by have hcv:=uq (48+(n:Int)) _ (digit n h);go_enter func69,ntmps69;go_wp2;go_ret;exact⟨rfl,br.alloc ly _⟩
def sA (n:Nat):n<=9223372036854775807->∀w:E,
  Calls Pg 69 #[J I n] w λe g=>e=ZI (U ⟨(Lib.decDigits n).toArray⟩)/\Below (B (A w)) w g:=by
 induction n using Nat.strongRecOn with
 |ind n i =>
  intro hn w;by_cases h:n<10;{rw[Lib.decDigits_one h];exact iK n h w}
  ·have f:∀w:E,Calls Pg 69 #[J I ((n:Int) / 10)] w λe g=>e=ZI (U ⟨(Lib.decDigits (n / 10)).toArray⟩)/\Below (B (A w)) w g:=λw=>i (n / 10) (by omega) (by omega) w;have j:=ae f;clear i f;have hcv:=uq (48+(n:Int) % 10) (dig (n % 10)) (by have:=digit (n % 10) (by omega);omega);have q1:IntKind.i64.wrap ((n:Int) / 10)=(n:Int) / 10:=by rw[nL];omega
   have q2:IntKind.i64.wrap ((n:Int) % 10)=(n:Int) % 10:=by rw[nL];omega
   have q3:IntKind.i64.wrap (48+(n:Int) % 10)=48+(n:Int) % 10:=by rw[nL];omega
   have q5:(n:Int).tmod 10=(n:Int) % 10:=RY (by omega);have hl:(Lib.decDigits (n / 10)).length<=21:=by rw[<-Lib.itoa_nonneg];exact Lib.itoa_length_le _ (by omega) (by omega)
   have q4:IntKind.u8.wrap (48+(n:Int) % 10)=48+(n:Int) % 10:=by rw[XG];omega
   go_enter func69,ntmps69;go_wp2_with fail;go_region_with (go_at_call 69;refine(j _).P ?_;rintro e w1⟨rfl,b⟩;have hc1:=(Jl b).1);all_goals
    go_wp2;go_ret;refine⟨gH ?_,?_⟩
    ·rw[ry h]
     apply YU;simp
    ·first
      |exact(br.drew.k b).alloc b.size _
      |exact((br.alloc ly _).drew).k (b.P (by simp))
def IA (k:Nat):UInt8:=([48,49,50,51,52,53,54,55,56,57,97,98,99,100,101,102]:List UInt8).getD k 0
def Jz (c:UInt8):List UInt8:=[IA (c.toNat / 16),IA (c.toNat % 16)]
def IB (c:UInt8):Bool:=decide (32<=c.toNat/\c.toNat<=126/\c.toNat≠34/\c.toNat≠92)
def enc (c:UInt8):List UInt8:=if IB c=true then [c] else 92::Jz c
def GQ (n:Nat)(h:n<=2000):(Lib.decDigits n).length<=21:=by rw[<-Lib.itoa_nonneg];exact Lib.itoa_length_le _ (by omega) (by omega)
def zb (x y ZY:Int)(a b c:UInt8)(l:x=a.toNat)(i:y=b.toNat)(hz:ZY=c.toNat)(w:E)(g:Nat)(m:ZU w (Q g 0 Z)=T (J .u8 x))(h1:ZU w (Q g 1 Z)=T (J .u8 y))(h2:ZU w (Q g 2 Z)=T (J .u8 ZY)):(convert 22 9 (Y (T (Q g 0 Z)) 3 3)).run Pg w=.ok (U ⟨#[a,b,c]⟩) w:=by
 refine VU _ 22 9 5 (Q g 0 Z) 3 [a,b,c] Q3 PQ ES ?_;intro j f;have f:j<3:=f;match j,f with
 |0,_=>simp[Addr.add,m,l]
 |1,_=>simp[Addr.add,h1,i]
 |2,_=>simp[Addr.add,h2,hz]
 |k+3,h=>exact absurd h (by omega)
def JA (i:Nat)(h:i<1000):(∀(w:E) (g:Nat),ZU w (Q g 0 Z)=T (J .u8 (48+(i:Int) / 100))->ZU w (Q g 1 Z)=T (J .u8 (48+(i:Int) / 10 % 10))->ZU w (Q g 2 Z)=T (J .u8 (48+(i:Int) % 10))->(convert 22 9 (Y (T (Q g 0 Z)) 3 3)).run Pg w=.ok (U ⟨#[dig (i / 100),dig (i / 10 % 10),dig (i % 10)]⟩) w)/\IntKind.i64.wrap ((i:Int) / 100)=(i:Int) / 100/\IntKind.i64.wrap ((i:Int) / 10)=(i:Int) / 10/\IntKind.i64.wrap ((i:Int) / 10 % 10)=(i:Int) / 10 % 10/\IntKind.i64.wrap ((i:Int) % 10)=(i:Int) % 10/\(i:Int).tmod 10=(i:Int) % 10/\((i:Int) / 10).tmod 10=(i:Int) / 10 % 10/\IntKind.i64.wrap (48+(i:Int) / 100)=48+(i:Int) / 100/\IntKind.i64.wrap (48+(i:Int) / 10 % 10)=48+(i:Int) / 10 % 10/\IntKind.i64.wrap (48+(i:Int) % 10)=48+(i:Int) % 10/\IntKind.u8.wrap (48+(i:Int) / 100)=48+(i:Int) / 100/\IntKind.u8.wrap (48+(i:Int) / 10 % 10)=48+(i:Int) / 10 % 10/\IntKind.u8.wrap (48+(i:Int) % 10)=48+(i:Int) % 10:=
 ⟨zb (48+(i:Int) / 100) (48+(i:Int) / 10 % 10) (48+(i:Int) % 10) (dig (i / 100)) (dig (i / 10 % 10)) (dig (i % 10)) (by have:=digit (i / 100) (by omega);omega) (by have:=digit (i / 10 % 10) (by omega);omega) (by have:=digit (i % 10) (by omega);omega),(by rw[nL];omega),(by rw[nL];omega),(by rw[nL];omega),(by rw[nL];omega),RY (by omega),RY (by omega),(by rw[nL];omega),(by rw[nL];omega),(by rw[nL];omega),(by rw[XG];omega),(by rw[XG];omega),(by rw[XG];omega)⟩
def iL (i:Nat)(h:i<1000)(w:E):Calls Pg 71 #[J I i] w λe b=>∃s:F_,e=ZI (U s)/\s.size<=4/\Below (B (A w)) w b:=by obtain⟨hcv,q1,q2,q3,q4,q5,q6,r1,r2,r3,s1,s2,s3⟩:=JA i h;go_enter func71,ntmps71;go_wp2;go_ret;refine⟨_,rfl,?_,br.alloc ly _⟩;simp only[PV];exact p7 4
def addr_add (b off j:Nat):((Q b off Z):Addr).add j=(Q b (off+j) Z):=by unfold Addr.add;split<;>simp_all
def cT {f:Type}(g:f->List ZB)(C:Nat)(b:∀x,(g x).length=C):∀(L:List f) (i j:Nat) (_:j<C) (x:f),L[i]?=T x->(L.flatMap g)[i*C+j]?=(g x)[j]?
 |[],i,j,_,x,h=>by simp at h
 |y::L,0,j,hj,x,h=>by simp at h;subst h;rw[N9,UR,IT,NI (by rw[b];exact hj)]
 |y::L,i+1,j,hj,x,h=>by simp at h;rw[N9,KK (by rw[b,Nat.succ_mul];omega),b,show(i+1)*C+j - C=i*C+j by rw[Nat.succ_mul];omega];exact cT g C b L i j hj x h
def fA {b:Type}(g:b->List ZB)(C:Nat)(f:∀x,(g x).length=C):∀L:List b,(L.flatMap g).length=L.length*C
 |[]=>by simp
 |y::L=>by rw[N9,cM,f,fA g C f L,vF,Nat.succ_mul];omega
def lO (x:Ins):List ZB:=[J I x.op,U x.s,J I x.n]
def bZ (f:Nat->Ins)(n:Nat):List ZB:=((List.range n).map f).flatMap lO
def lP (f:Nat->Ins)(n:Nat):(bZ f n).length=n*3:=by rw[bZ,fA lO 3 (λ_=>rfl)];simp
def oy (f:Nat->Ins){i:Nat}(hi:i<n)(j:Nat)(b:j<3):(bZ f n)[i*3+j]?=(lO (f i))[j]? :=
 cT lO 3 (λ_=>rfl) _ i j b (f i) (by simp[hi])
def us (f:Nat->Ins)(n:Nat):∀u∈bZ f n,u.oneCell'=true:=by intro u b;simp only[bZ,QR,lO] at b;obtain⟨x,_,g⟩:=b;simp at g;rcases g with rfl|rfl|rfl<;>simp[Value.oneCell']
def rz{off:Nat}(h:Q_ w b off n f):∀j u,(bZ f n)[j]?=T u->w.cell? (((Q b off Z):Addr).add j)=T u:=by
 intro j u g;have hl:j<n*3:=by have:=(j5.1 g).1;rwa[lP] at this
 have e:j=j / 3*3+j % 3:=by omega
 have hi:j / 3<n:=by omega
 obtain⟨m,h1,h2⟩:=h.2 (j / 3) hi;have i:j % 3<3:=UJ _ (by omega);rw[e,oy f hi (j % 3) i] at g;have l:((Q b off Z):Addr).add j=(Q b (off+j) Z):=addr_add _ _ _;rw[l];rcases(show j % 3=0\/j % 3=1\/j % 3=2 by omega) with q|q|q;all_goals rw[q] at g;simp[lO] at g;subst g
 {rw[show off+j=off+j / 3*3 by omega];exact m};{rw[show off+j=off+j / 3*3+1 by omega];exact h1};{rw[show off+j=off+j / 3*3+2 by omega];exact h2}
def bA{f:Nat}{i:List ZB}(h:ZV w f e size (Y (T (Q g 0 Z)) n j_) n i){u:ZB}(l:i[j]?=T u):ZU w (Q g j Z)=T u/\w.frozen? (Q g j Z)=ZA:=by
 refine⟨?_,?_⟩
 ·have:=h.cells (g:=g) rfl j u l;have o:((Q g 0 Z):Addr).add j=(Q g j Z):=by rw[addr_add];simp
  rwa[o] at this
 ·rcases h.2 with⟨b,_⟩|⟨g',cap',cur,b,_,m,_⟩
  {simp at b};{simp at b;obtain⟨rfl,rfl⟩:=b;simp[World.frozen?,m]}
def cV{f:List ZB}(h:ZV w b e size (Y (T (Q g 0 Z)) n j_) n f):b<=g/\g<B (A w):=h.lt g rfl
def Qz (w:E)(g:Nat)(e:ZK):Prop:=∃b,w.heap[g]?=T (N b e (0,0))
def jH{f:Nat}{l:List ZB}(h:ZV w f e size (Y (T (Q g 0 Z)) n j_) n l):Qz w g e:=by
 rcases h.2 with⟨b,_⟩|⟨g',cap',i,b,_,j,_⟩
 {simp at b};{simp at b;obtain⟨rfl,rfl⟩:=b;exact⟨i,j⟩}
def fc{k:Nat}{f:ZK}(h:Qz w g e)(j:Qz w k f)(i:e≠f):g≠k:=by rintro rfl;obtain⟨c,l⟩:=h;obtain⟨d,b⟩:=j;rw[l] at b;simp at b;exact i b.2
def aH{R:Nat}{v:ZB}{f:List ZB}(h:ZV w b e size v n f)(hR:R<b)(u:ZB):(w.setCell (Q R j Z) u).ownsRow b e size v n f:=by
 refine h.kept (row:=T R) ⟨rfl,rfl,rfl,by simp[World.setCell],λk _ i=>qh _ _ _ _ (by simpa using i)⟩ ?_;rcases h.2 with⟨rfl,_⟩|⟨g,j_,cur,rfl,hg,_⟩
 {exact .inl rfl};{right;simp[Value.ownBlock];omega}
def kY{l:Nat}(h:ZV w l 124 3 (Y (T (Q g 0 Z)) n j_) n (bZ f n)):Q_ w g 0 n f/\∃F,Cells w g 0 (n*3) F:=by
 have b:=(cV h).2;refine⟨⟨b,λi hi=>⟨?_,?_,?_⟩⟩,λj=>(bZ f n)[j]?.getD undef,b,λj o=>?_⟩;{have:=(bA h (j:=i*3) (u:=J I (f i).op) (by have:=oy f hi 0 (by omega);simpa[lO] using this)).1;rwa[show 0+i*3=i*3 by omega]};{have:=(bA h (j:=i*3+1) (u:=U (f i).s) (by have:=oy f hi 1 (by omega);simpa[lO] using this)).1;rwa[show 0+i*3+1=i*3+1 by omega]};{have:=(bA h (j:=i*3+2) (u:=J I (f i).n) (by have:=oy f hi 2 (by omega);simpa[lO] using this)).1;rwa[show 0+i*3+2=i*3+2 by omega]}
 ·rw[IT];have m:j<(bZ f n).length:=by rw[lP];exact o
  have:=bA h (j:=j) (u:=(bZ f n)[j]) (by rw[gq m]);show w.cell? _=T ((bZ f n)[j]?.getD undef)/\_;rw[gq m];exact this
def AR (b off n j_:Nat)(f:Nat->Ins)(w:E)(hn:(n:Int)<=1048576)(q:Q_ w b off n f):Calls Pg 168 #[Y (T (Q b off Z)) n j_] w λe u=>∃g c,e=ZI (Y (T (Q g 0 Z)) n c)/\u.ownsRow (B (A w)) 124 3 (Y (T (Q g 0 Z)) n c) n (bZ f n)/\Below (B (A w)) w u:=by
 have r:=ae ((BS w).alloc ly (N #[] 124));have y:=ae (q.aa r ly);clear q;obtain⟨s,hi,m,t,o⟩:=NP ou;have hnl:∀w:E,(binOp .eql 35 (Y (T (Q b off Z)) n j_) (Y Z 0 0)).run Pg w=.ok (.bool ZA) w:=λw=>Lib.run_eql_slice_nil w _ _ _ _ _ _ _ QE;go_enter func168,ntmps168;go_wp2_with (at_builtin;refine DN _ rfl (.tmp 5) (.tmp 6) 35 rfl (B (A w)) 124 s (ZJ #[J I 0,U ⟨#[]⟩,J I 0]) 3 32 QE hi m t o rfl (by decide) (Y (T (Q (B (A w)) 0 Z)) 0 0) 0 [] (by simp[Act.eval]) (OV w #[] 0 ly (by unfold maxLen;omega) rfl) (Q b off Z) n j_ (bZ f n) (by simp[Act.eval]) (lP f n) (rz y) (us f n) (by unfold maxLen;omega) (by omega) (by simp) ?_;intro v' w2 h i l;simp only[IT,NS] at h;have p:=ae h;have ZY:=ae l;have x:=ae (bg r i (by simp) (λj e=>by simp[Value.ownBlock] at e;omega));clear h i l);go_ret;rcases p.2 with⟨rfl,_⟩|⟨g,c,cur,rfl,_⟩
 {have:=ZY.1 rfl;simp at this};{exact⟨g,c,rfl,p,x⟩}
def qe (b off n j_:Nat)(f:Nat->Ins)(w:E)(hn:(n:Int)<=1048576)(i:Q_ w b off n f):Calls Pg 136 #[ZJ #[Y (T (Q b off Z)) n j_]] w λe o=>∃g c,e=ZI (ZJ #[Y (T (Q g 0 Z)) n c])/\o.ownsRow (B (A w)) 124 3 (Y (T (Q g 0 Z)) n c) n (bZ f n)/\Below (B (A w)) w o:=by
 have m:=ae (((BS w).alloc ly (N #[Y (T (Q b off Z)) n j_] 37)).alloc (by simp) (N #[Y Z 0 0] 37));have u:=ae (i.aa m ly);have q:ZU (z (z w (N #[Y (T (Q b off Z)) n j_] 37)) (N #[Y Z 0 0] 37)) (Q (B (A w)+1) 0 Z)=T (Y Z 0 0):=by simp
 clear i;go_enter func136,ntmps136;go_wp2_with fail;refine(AR b off n j_ f _ hn u).P ?_;rintro e t⟨g,c,rfl,l,h⟩;have x:=(h.O (p:=(Q (B (A w)+1) 0 Z)) (by simp)).k q;have s:=ae (aE (aH (R:=B (A w)+1) (j:=0) l (by simp) (Y (T (Q g 0 Z)) n c)) (base':=B (A w)) (by simp;omega));have r:=ae ((m.k (h.P (by simp;omega))).setCell (p:=(Q (B (A w)+1) 0 Z)) (by simp) (Y (T (Q g 0 Z)) n c));have z0:t.frozen? (Q (B (A w)+1) 0 Z)=ZA:=(h.frozen (p:=(Q (B (A w)+1) 0 Z)) (by simp)).k (by simp);clear l h q;go_wp2;exact bp (v:=ZJ #[Y (T (Q g 0 Z)) n c]) (by simp[results,results136,go_sem,x]) rfl ⟨g,c,rfl,s,r⟩
def je (b off n j_:Nat)(f:Nat->Ins)(w:E)(hn:(n:Int)<=1048576)(t:Q_ w b off n f):Calls Pg 50 #[ZJ #[Y (T (Q b off Z)) n j_]] w λe ZY=>∃g c,e=ZI (ZJ #[Y (T (Q g 0 Z)) n c])/\ZY.ownsRow (B (A w)) 124 3 (Y (T (Q g 0 Z)) n c) n (bZ f n)/\Below (B (A w)) w ZY:=by
 have ZX:=ae (((BS w).alloc ly (N #[Y (T (Q b off Z)) n j_] 37)).alloc (by simp) (N #[Y Z 0 0] 37));have x:ZU (z (z w (N #[Y (T (Q b off Z)) n j_] 37)) (N #[Y Z 0 0] 37)) (Q (B (A w)+1) 0 Z)=T (Y Z 0 0):=by simp
 have ZW:ZU (z (z w (N #[Y (T (Q b off Z)) n j_] 37)) (N #[Y Z 0 0] 37)) (Q (B (A w)) 0 Z)=T (Y (T (Q b off Z)) n j_):=by simp
 have z0:(z (z w (N #[Y (T (Q b off Z)) n j_] 37)) (N #[Y Z 0 0] 37)).frozen? (Q (B (A w)+1) 0 Z)=ZA:=by simp
 have hz:B (A (z (z w (N #[Y (T (Q b off Z)) n j_] 37)) (N #[Y Z 0 0] 37)))=B (A w)+1+1:=by simp
 have r:=ae (t.aa ZX ly);clear t;obtain⟨u,hi,s,q,o⟩:=NP ou;go_enter func50,ntmps50;have y:=ae ((a8 (B (A w)+1+1) (z (z w (N #[Y (T (Q b off Z)) n j_] 37)) (N #[Y Z 0 0] 37))).alloc (by simp) (N #[] 124));have ZT:=ae (r.aa y (by simp));go_wp2_with (at_builtin;refine DN _ rfl (.tmp 3) (.tmp 5) 35 rfl (B (A w)+1+1) 124 u (ZJ #[J I 0,U ⟨#[]⟩,J I 0]) 3 32 QE hi s q o rfl (by decide) (Y (T (Q (B (A w)+1+1) 0 Z)) 0 0) 0 [] (by simp[Act.eval]) (by have:=OV (base:=B (A w)+1+1) (e:=124) (size:=3) (z (z w (N #[Y (T (Q b off Z)) n j_] 37)) (N #[Y Z 0 0] 37)) #[] 0 (by simp) (by unfold maxLen;omega) rfl;simpa using this) (Q b off Z) n j_ (bZ f n) (by simp[Act.eval]) (lP f n) (rz ZT) (us f n) (by unfold maxLen;omega) (by omega) (by simp<;>omega) ?_;intro D w2 h i l;simp only[IT,NS] at h;obtain⟨g,c,rfl⟩:∃g c,D=Y (T (Q g 0 Z)) n c:=(by rcases h.2 with⟨rfl,_⟩|⟨g,c,cur,rfl,_⟩;(have:=l.1 rfl;simp at this);exact⟨g,c,rfl⟩);have m:=ae (bg y i (by simp<;>omega) (λj e=>by simp[Value.ownBlock] at e;omega));have G:=ae (ZX.k (m.P (by omega)));have H:=(m.O (p:=(Q (B (A w)+1) 0 Z)) (by simp)).k x;have lz:=(m.frozen (p:=(Q (B (A w)+1) 0 Z)) (by simp)).k z0;have C:=ae (aE (aH (R:=B (A w)+1) (j:=0) h (by omega) (Y (T (Q g 0 Z)) n c)) (base':=B (A w)) (by omega));clear h i l x ZW z0);exact bp (v:=ZJ #[Y (T (Q g 0 Z)) n c]) (by simp[results,results50,go_sem,H]) rfl ⟨g,c,rfl,C,G.setCell (by simp) _⟩
def bF (x:Source):List ZB:=[U x.e,U x.H]
def tJ (a:O_)(j_:Nat)(w:E):Calls Pg 50 #[ZJ #[Y a 0 j_]] w λe ZX=>∃g c,e=ZI (ZJ #[Y (T (Q g 0 Z)) 0 c])/\ZX.ownsRow (B (A w)) 124 3 (Y (T (Q g 0 Z)) 0 c) 0 []/\Below (B (A w)) w ZX:=by
 have hz:B (A (z (z w (N #[Y a 0 j_] 37)) (N #[Y (T (Q (B (A w)+1+1) 0 Z)) 0 0] 37)))=B (A w)+1+1:=by simp
 have ZY:=ae ((((BS w).alloc ly (N #[Y a 0 j_] 37)).alloc (by simp) (N #[Y (T (Q (B (A w)+1+1) 0 Z)) 0 0] 37)).alloc (by rw[hz];omega) (N #[] 124));have q:Hid ((z (z (z w (N #[Y a 0 j_] 37)) (N #[Y (T (Q (B (A w)+1+1) 0 Z)) 0 0] 37)) (N #[] 124)).ownsRow (B (A w)) 124 3 (Y (T (Q (B (A w)+1+1) 0 Z)) 0 0) 0 []):=by have h:=OV (base:=B (A w)) (e:=124) (size:=3) (z (z w (N #[Y a 0 j_] 37)) (N #[Y (T (Q (B (A w)+1+1) 0 Z)) 0 0] 37)) #[] 0 (by rw[hz];omega) (by unfold maxLen;omega) rfl;rw[hz] at h;exact h
 have m:ZU (z (z w (N #[Y a 0 j_] 37)) (N #[Y Z 0 0] 37)) (Q (B (A w)+1) 0 Z)=T (Y Z 0 0):=by simp
 have s:ZU (z (z w (N #[Y a 0 j_] 37)) (N #[Y Z 0 0] 37)) (Q (B (A w)) 0 Z)=T (Y a 0 j_):=by simp
 have z0:(z (z w (N #[Y a 0 j_] 37)) (N #[Y Z 0 0] 37)).frozen? (Q (B (A w)+1) 0 Z)=ZA:=by simp
 cases a with
 |none =>clear m s z0;go_enter func50,ntmps50;go_wp2;exact bp (v:=ZJ #[Y (T (Q (B (A w)+1+1) 0 Z)) 0 0]) (by simp[results,results50,go_sem]) rfl ⟨_,_,rfl,q,ZY⟩
 |some i =>
  have G:=ae (((BS w).alloc ly (N #[Y (T i) 0 j_] 37)).alloc (by simp) (N #[Y Z 0 0] 37));have hz2:B (A (z (z w (N #[Y (T i) 0 j_] 37)) (N #[Y Z 0 0] 37)))=B (A w)+1+1:=by simp
  obtain⟨y,hi,x,t,r⟩:=NP ou;have ZW:=ae ((a8 (B (A w)+1+1) (z (z w (N #[Y (T i) 0 j_] 37)) (N #[Y Z 0 0] 37))).alloc (by simp) (N #[] 124));clear ZY q hz;go_enter func50,ntmps50;go_wp2_with (at_builtin;refine DN _ rfl (.tmp 3) (.tmp 5) 35 rfl (B (A w)+1+1) 124 y (ZJ #[J I 0,U ⟨#[]⟩,J I 0]) 3 32 QE hi x t r rfl (by decide) (Y (T (Q (B (A w)+1+1) 0 Z)) 0 0) 0 [] (by simp[Act.eval]) (by have:=OV (base:=B (A w)+1+1) (e:=124) (size:=3) (z (z w (N #[Y (T i) 0 j_] 37)) (N #[Y Z 0 0] 37)) #[] 0 (by simp) (by unfold maxLen;omega) rfl;simpa using this) i 0 j_ [] (by simp[Act.eval]) rfl (λj u o=>by simp at o) (λu o=>by simp at o) (by unfold maxLen;omega) (by omega) (by simp<;>omega) ?_;intro D w2 b f l;simp only[IT,NS] at b;obtain⟨g,c,rfl⟩:∃g c,D=Y (T (Q g 0 Z)) 0 c:=(by rcases b.2 with⟨rfl,_⟩|⟨g,c,cur,rfl,_⟩;(have:=l.1 rfl;simp at this);exact⟨g,c,rfl⟩);have n:=ae (bg ZW f (by simp<;>omega) (λj e=>by simp[Value.ownBlock] at e;omega));have ZT:=ae (G.k (n.P (by omega)));have H:=(n.O (p:=(Q (B (A w)+1) 0 Z)) (by simp)).k m;have lz:=(n.frozen (p:=(Q (B (A w)+1) 0 Z)) (by simp)).k z0;have C:=ae (aE (aH (R:=B (A w)+1) (j:=0) b (by omega) (Y (T (Q g 0 Z)) 0 c)) (base':=B (A w)) (by omega));clear b f l m s z0);exact bp (v:=ZJ #[Y (T (Q g 0 Z)) 0 c]) (by simp[results,results50,go_sem,H]) rfl ⟨g,c,rfl,C,ZT.setCell (by simp) _⟩
def jf (a:O_)(n j_:Nat)(f:Nat->Ins)(w:E)(hn:(n:Int)<=1048576)(h:SlIns w a n f):Calls Pg 50 #[ZJ #[Y a n j_]] w λe i=>∃g c,e=ZI (ZJ #[Y (T (Q g 0 Z)) n c])/\i.ownsRow (B (A w)) 124 3 (Y (T (Q g 0 Z)) n c) n (bZ f n)/\Below (B (A w)) w i:=by
 rcases h with rfl|⟨b,off,rfl,h⟩
 {exact tJ a j_ w};{exact je b off n j_ f w hn h}
