import Derived.Test.YthkpcehepgmdgaaGreatDoorTM
import Derived.Lib.SliceRun
import Derived.Lib.ItoaNum
import Derived.Lib.ItoaLen
import Derived.Lib.ItoaMem
import Derived.Lib.SmallJoins
set_option maxRecDepth 100000
set_option maxHeartbeats 2000000
open Go renaming Addr.mk->Q,Value.slice->Z,Value.string->U,Value.int->J,Value.agg->ZH,Obj.cells->N,IntKind.i64->I,World->G,Value->ZD,TypeId->ZI,Ending.returned->ZG,World.heap->h,World.ownsRow->ZV,World.alloc->ZT,World.cell?->ZU,Proofs.Tryz.prog->Pg
open Option renaming none->Y,some->T
open Bool renaming false->ZB
open Array renaming size->A
namespace Go.Proofs.YthkpcehepgmdgaaGreatDoor.Vp
open Tryz RowKit
variable {n g size cap b j:Nat}{w:G}{e:ZI}{f:Nat->Ins}
def Cells (w:G)(b off m:Nat)(F:Nat->ZD):Prop:=b<A (h w)/\∀j,j<m->ZU w (Q b (off+j) Y)=T (F j)/\w.frozen? (Q b (off+j) Y)=ZB
structure Touch (P:Nat->Prop)(w w':G):Prop where
 os:w'.os=w.os
 tape:w'.tape=w.tape
 output:w'.output=w.output
 size:A (h w)<=A (h w')
 block:∀k,k<A (h w)->¬ P k->w'.heap[k]?=w.heap[k]?
theorem tj (x:Int)(b:UInt8)(ZX:x=b.toNat)(w:G)(g:Nat)(f:ZU w (Q g 0 Y)=T (J .u8 x)):(convert 22 9 (Z (T (Q g 0 Y)) 1 1)).run Pg w=.ok (U ⟨#[b]⟩) w:=by
 refine PH _ 22 9 5 (Q g 0 Y) 1 [b] MS MG LH ?_;intro j i;obtain rfl:j=0:=by simpa using i
 simp[Addr.add,f,ZX]
def dig (n:Nat):UInt8:=UInt8.ofNat (48+n)
theorem digit (n:Nat)(ZX:n<10):(48+(n:Int))=(dig n).toNat:=by unfold dig;rw[UInt8.toNat_ofNat'];omega
theorem qg (ZX:¬ n<10):Lib.decDigits n=Lib.decDigits (n / 10)++[dig (n % 10)]:=by rw[Lib.decDigits,dif_neg ZX];rfl
theorem ig (n:Nat)(ZX:n<10)(w:G):Calls Pg 59 #[J I n] w λe b=>e=ZG (U ⟨#[dig n]⟩)/\Below (A (h w)) w b:=by have hcv:=tj (48+(n:Int)) _ (digit n ZX);go_enter func59,ntmps59;go_wp2;go_ret;exact⟨rfl,br.alloc ly _⟩
theorem qS (n:Nat):n<=9223372036854775807->∀w:G,
  Calls Pg 59 #[J I n] w λe g=>e=ZG (U ⟨(Lib.decDigits n).toArray⟩)/\Below (A (h w)) w g:=by
 induction n using Nat.strongRecOn with
 |ind n i =>
  intro hn w;by_cases ZX:n<10;{rw[Lib.decDigits_one ZX];exact ig n ZX w}
  ·have f:∀w:G,Calls Pg 59 #[J I ((n:Int) / 10)] w λe g=>e=ZG (U ⟨(Lib.decDigits (n / 10)).toArray⟩)/\Below (A (h w)) w g:=λw=>i (n / 10) (by omega) (by omega) w;have j:=ae f;clear i f;have hcv:=tj (48+(n:Int) % 10) (dig (n % 10)) (by have:=digit (n % 10) (by omega);omega);have q1:IntKind.i64.wrap ((n:Int) / 10)=(n:Int) / 10:=by rw[nL];omega
   have q2:IntKind.i64.wrap ((n:Int) % 10)=(n:Int) % 10:=by rw[nL];omega
   have q3:IntKind.i64.wrap (48+(n:Int) % 10)=48+(n:Int) % 10:=by rw[nL];omega
   have q5:(n:Int).tmod 10=(n:Int) % 10:=MQ (by omega);have hl:(Lib.decDigits (n / 10)).length<=21:=by rw[<-Lib.itoa_nonneg];exact Lib.itoa_length_le _ (by omega) (by omega)
   have q4:IntKind.u8.wrap (48+(n:Int) % 10)=48+(n:Int) % 10:=by rw[PK];omega
   go_enter func59,ntmps59;go_wp2_with fail;go_region_with (go_at_call 59;refine(j _).mono ?_;rintro e w1 ⟨rfl,b⟩;have hc1:=(GJ b).1);all_goals
    go_wp2;go_ret;refine⟨gu ?_,?_⟩
    ·rw[qg ZX]
     apply UU;simp
    ·first
      |exact(br.drew.trans b).alloc b.size _
      |exact((br.alloc ly _).drew).trans (b.mono (by simp))
def FQ (k:Nat):UInt8:=([48,49,50,51,52,53,54,55,56,57,97,98,99,100,101,102]:List UInt8).getD k 0
def Hb (c:UInt8):List UInt8:=[FQ (c.toNat / 16),FQ (c.toNat % 16)]
def FU (c:UInt8):Bool:=decide (32<=c.toNat/\c.toNat<=126/\c.toNat≠34/\c.toNat≠92)
def enc (c:UInt8):List UInt8:=if FU c=true then [c] else 92::Hb c
theorem Es (n:Nat)(ZX:n<=2000):(Lib.decDigits n).length<=21:=by rw[<-Lib.itoa_nonneg];exact Lib.itoa_length_le _ (by omega) (by omega)
theorem xJ (x y z:Int)(a b c:UInt8)(i:x=a.toNat)(m:y=b.toNat)(hz:z=c.toNat)(w:G)(g:Nat)(l:ZU w (Q g 0 Y)=T (J .u8 x))(h1:ZU w (Q g 1 Y)=T (J .u8 y))(h2:ZU w (Q g 2 Y)=T (J .u8 z)):(convert 22 9 (Z (T (Q g 0 Y)) 3 3)).run Pg w=.ok (U ⟨#[a,b,c]⟩) w:=by
 refine PH _ 22 9 5 (Q g 0 Y) 3 [a,b,c] MS MG LH ?_;intro j f;have f:j<3:=f;match j,f with
 |0,_=>simp[Addr.add,l,i]
 |1,_=>simp[Addr.add,h1,m]
 |2,_=>simp[Addr.add,h2,hz]
 |k+3,ZX=>exact absurd ZX (by omega)
theorem Hc (i:Nat)(ZX:i<1000):(∀(w:G) (g:Nat),ZU w (Q g 0 Y)=T (J .u8 (48+(i:Int) / 100))->ZU w (Q g 1 Y)=T (J .u8 (48+(i:Int) / 10 % 10))->ZU w (Q g 2 Y)=T (J .u8 (48+(i:Int) % 10))->(convert 22 9 (Z (T (Q g 0 Y)) 3 3)).run Pg w=.ok (U ⟨#[dig (i / 100),dig (i / 10 % 10),dig (i % 10)]⟩) w)/\IntKind.i64.wrap ((i:Int) / 100)=(i:Int) / 100/\IntKind.i64.wrap ((i:Int) / 10)=(i:Int) / 10/\IntKind.i64.wrap ((i:Int) / 10 % 10)=(i:Int) / 10 % 10/\IntKind.i64.wrap ((i:Int) % 10)=(i:Int) % 10/\(i:Int).tmod 10=(i:Int) % 10/\((i:Int) / 10).tmod 10=(i:Int) / 10 % 10/\IntKind.i64.wrap (48+(i:Int) / 100)=48+(i:Int) / 100/\IntKind.i64.wrap (48+(i:Int) / 10 % 10)=48+(i:Int) / 10 % 10/\IntKind.i64.wrap (48+(i:Int) % 10)=48+(i:Int) % 10/\IntKind.u8.wrap (48+(i:Int) / 100)=48+(i:Int) / 100/\IntKind.u8.wrap (48+(i:Int) / 10 % 10)=48+(i:Int) / 10 % 10/\IntKind.u8.wrap (48+(i:Int) % 10)=48+(i:Int) % 10 :=
 ⟨xJ (48+(i:Int) / 100) (48+(i:Int) / 10 % 10) (48+(i:Int) % 10) (dig (i / 100)) (dig (i / 10 % 10)) (dig (i % 10)) (by have:=digit (i / 100) (by omega);omega) (by have:=digit (i / 10 % 10) (by omega);omega) (by have:=digit (i % 10) (by omega);omega),(by rw[nL];omega),(by rw[nL];omega),(by rw[nL];omega),(by rw[nL];omega),MQ (by omega),MQ (by omega),(by rw[nL];omega),(by rw[nL];omega),(by rw[nL];omega),(by rw[PK];omega),(by rw[PK];omega),(by rw[PK];omega)⟩
theorem jW (i:Nat)(ZX:i<1000)(w:G):Calls Pg 64 #[J I i] w λe b=>∃s:ByteArray,e=ZG (U s)/\s.size<=4/\Below (A (h w)) w b:=by obtain⟨hcv,q1,q2,q3,q4,q5,q6,r1,r2,r3,s1,s2,s3⟩:=Hc i ZX;go_enter func64,ntmps64;go_wp2;go_ret;refine⟨_,rfl,?_,br.alloc ly _⟩;simp only[L9];exact j6 4
theorem addr_add (b off j:Nat):((Q b off Y):Addr).add j=(Q b (off+j) Y):=by unfold Addr.add;split<;>simp_all
theorem cL {f:Type}(g:f->List ZD)(C:Nat)(b:∀x,(g x).length=C):∀(L:List f) (i j:Nat) (_:j<C) (x:f),L[i]?=T x->(L.flatMap g)[i*C+j]?=(g x)[j]?
 |[],i,j,_,x,ZX=>by simp at ZX
 |y::L,0,j,hj,x,ZX=>by simp at ZX;subst ZX;rw[LI,T8,E4,KO (by rw[b];exact hj)]
 |y::L,i+1,j,hj,x,ZX=>by simp at ZX;rw[LI,KL (by rw[b,Nat.succ_mul];omega),b,show(i+1)*C+j - C=i*C+j by rw[Nat.succ_mul];omega];exact cL g C b L i j hj x ZX
theorem fc {f:Type}(g:f->List ZD)(C:Nat)(b:∀x,(g x).length=C):∀L:List f,(L.flatMap g).length=L.length*C
 |[]=>by simp
 |y::L=>by rw[LI,gB,b,fc g C b L,p6,Nat.succ_mul];omega
def kW (x:Ins):List ZD:=[J I x.op,U x.s,J I x.n]
def bK (f:Nat->Ins)(n:Nat):List ZD:=((List.range n).map f).flatMap kW
theorem kY (f:Nat->Ins)(n:Nat):(bK f n).length=n*3:=by rw[bK,fc kW 3 (λ_=>rfl)];simp
theorem nf (f:Nat->Ins){i:Nat}(hi:i<n)(j:Nat)(b:j<3):(bK f n)[i*3+j]?=(kW (f i))[j]? :=
 cL kW 3 (λ_=>rfl) _ i j b (f i) (by simp[hi])
theorem oq (f:Nat->Ins)(n:Nat):∀u∈bK f n,u.oneCell'=true:=by intro u g;simp only[bK,MK,kW] at g;obtain⟨x,_,b⟩:=g;simp at b;rcases b with rfl|rfl|rfl<;>simp[Value.oneCell']
theorem qi{off:Nat}(ZX:RowIns w b off n f):∀j u,(bK f n)[j]?=T u->w.cell? (((Q b off Y):Addr).add j)=T u:=by
 intro j u g;have hl:j<n*3:=by have:=(j2.1 g).1;rwa[kY] at this
 have e:j=j / 3*3+j % 3:=by omega
 have hi:j / 3<n:=by omega
 obtain⟨m,h1,h2⟩:=ZX.2 (j / 3) hi;have i:j % 3<3:=PE _ (by omega);rw[e,nf f hi (j % 3) i] at g;have l:((Q b off Y):Addr).add j=(Q b (off+j) Y):=addr_add _ _ _;rw[l];rcases(show j % 3=0∨j % 3=1∨j % 3=2 by omega) with q|q|q;all_goals rw[q] at g;simp[kW] at g;subst g
 {rw[show off+j=off+j / 3*3 by omega];exact m};{rw[show off+j=off+j / 3*3+1 by omega];exact h1};{rw[show off+j=off+j / 3*3+2 by omega];exact h2}
theorem a8{f:Nat}{i:List ZD}(ZX:ZV w f e size (Z (T (Q g 0 Y)) n cap) n i){u:ZD}(o:i[j]?=T u):ZU w (Q g j Y)=T u/\w.frozen? (Q g j Y)=ZB:=by
 refine⟨?_,?_⟩
 ·have:=ZX.cells (g:=g) rfl j u o;have l:((Q g 0 Y):Addr).add j=(Q g j Y):=by rw[addr_add];simp
  rwa[l] at this
 ·rcases ZX.2 with ⟨b,_⟩|⟨g',cap',cur,b,_,m,_⟩
  {simp at b};{simp at b;obtain⟨rfl,rfl⟩:=b;simp[World.frozen?,m]}
theorem cu{f:List ZD}(ZX:ZV w b e size (Z (T (Q g 0 Y)) n cap) n f):b<=g/\g<A (h w):=ZX.lt g rfl
def TypeAt (w:G)(g:Nat)(e:ZI):Prop:=∃b,w.heap[g]?=T (N b e (0,0))
theorem fU{f:Nat}{j:List ZD}(ZX:ZV w f e size (Z (T (Q g 0 Y)) n cap) n j):TypeAt w g e:=by
 rcases ZX.2 with ⟨b,_⟩|⟨g',cap',i,b,_,l,_⟩
 {simp at b};{simp at b;obtain⟨rfl,rfl⟩:=b;exact⟨i,l⟩}
theorem ew{k:Nat}{f:ZI}(ZX:TypeAt w g e)(l:TypeAt w k f)(i:e≠f):g≠k:=by rintro rfl;obtain⟨c,j⟩:=ZX;obtain⟨d,b⟩:=l;rw[j] at b;simp at b;exact i b.2
theorem aC{R:Nat}{v:ZD}{f:List ZD}(ZX:ZV w b e size v n f)(hR:R<b)(u:ZD):(w.setCell (Q R j Y) u).ownsRow b e size v n f:=by
 refine ZX.kept (row:=T R) ⟨rfl,rfl,rfl,by simp[World.setCell],λk _ i=>qh _ _ _ _ (by simpa using i)⟩ ?_;rcases ZX.2 with ⟨rfl,_⟩|⟨g,cap,cur,rfl,hg,_⟩
 {exact .inl rfl};{right;simp[Value.ownBlock];omega}
theorem gV{l:Nat}(ZX:ZV w l 90 3 (Z (T (Q g 0 Y)) n cap) n (bK f n)):RowIns w g 0 n f/\∃F,Cells w g 0 (n*3) F:=by
 have b:=(cu ZX).2;refine⟨⟨b,λi hi=>⟨?_,?_,?_⟩⟩,λj=>(bK f n)[j]?.getD undef,b,λj o=>?_⟩;{have:=(a8 ZX (j:=i*3) (u:=J I (f i).op) (by have:=nf f hi 0 (by omega);simpa[kW] using this)).1;rwa[show 0+i*3=i*3 by omega]};{have:=(a8 ZX (j:=i*3+1) (u:=U (f i).s) (by have:=nf f hi 1 (by omega);simpa[kW] using this)).1;rwa[show 0+i*3+1=i*3+1 by omega]};{have:=(a8 ZX (j:=i*3+2) (u:=J I (f i).n) (by have:=nf f hi 2 (by omega);simpa[kW] using this)).1;rwa[show 0+i*3+2=i*3+2 by omega]}
 ·rw[E4];have m:j<(bK f n).length:=by rw[kY];exact o
  have:=a8 ZX (j:=j) (u:=(bK f n)[j]) (by rw[gq m]);show w.cell? _=T ((bK f n)[j]?.getD undef)/\_;rw[gq m];exact this
theorem iM (b off n cap:Nat)(f:Nat->Ins)(w:G)(hn:(n:Int)<=1048576)(s:RowIns w b off n f):Calls Pg 50 #[ZH #[Z (T (Q b off Y)) n cap]] w λe r=>∃g c,e=ZG (ZH #[Z (T (Q g 0 Y)) n c])/\r.ownsRow (A (h w)) 90 3 (Z (T (Q g 0 Y)) n c) n (bK f n)/\Below (A (h w)) w r:=by
 have q:=ae (((q9 w).alloc ly (N #[Z (T (Q b off Y)) n cap] 41)).alloc (by simp) (N #[Z Y 0 0] 41));have o:ZU (ZT (ZT w (N #[Z (T (Q b off Y)) n cap] 41)) (N #[Z Y 0 0] 41)) (Q (A (h w)+1) 0 Y)=T (Z Y 0 0):=by simp
 have D:ZU (ZT (ZT w (N #[Z (T (Q b off Y)) n cap] 41)) (N #[Z Y 0 0] 41)) (Q (A (h w)) 0 Y)=T (Z (T (Q b off Y)) n cap):=by simp
 have z0:(ZT (ZT w (N #[Z (T (Q b off Y)) n cap] 41)) (N #[Z Y 0 0] 41)).frozen? (Q (A (h w)+1) 0 Y)=ZB:=by simp
 have hz:A (h (ZT (ZT w (N #[Z (T (Q b off Y)) n cap] 41)) (N #[Z Y 0 0] 41)))=A (h w)+1+1:=by simp
 have u:=ae (s.aa q ly);clear s;obtain⟨x,hi,ZW,y,t⟩:=KQ mW;go_enter func50,ntmps50;have z:=ae ((cM (A (h w)+1+1) (ZT (ZT w (N #[Z (T (Q b off Y)) n cap] 41)) (N #[Z Y 0 0] 41))).alloc (by simp) (N #[] 90));have E:=ae (u.aa z (by simp));go_wp2_with (at_builtin;refine DD _ rfl (.tmp 3) (.tmp 5) 39 rfl (A (h w)+1+1) 90 x (ZH #[J I 0,U ⟨#[]⟩,J I 0]) 3 32 MB hi ZW y t rfl (by decide) (Z (T (Q (A (h w)+1+1) 0 Y)) 0 0) 0 [] (by simp[Act.eval]) (by have:=LK (base:=A (h w)+1+1) (e:=90) (size:=3) (ZT (ZT w (N #[Z (T (Q b off Y)) n cap] 41)) (N #[Z Y 0 0] 41)) #[] 0 (by simp) (by unfold maxLen;omega) rfl;simpa using this) (Q b off Y) n cap (bK f n) (by simp[Act.eval]) (kY f n) (qi E) (oq f n) (by unfold maxLen;omega) (by omega) (by simp<;>omega) ?_;intro H w2 ZX i l;simp only[E4,J2] at ZX;obtain⟨g,c,rfl⟩:∃g c,H=Z (T (Q g 0 Y)) n c:=(by rcases ZX.2 with ⟨rfl,_⟩|⟨g,c,cur,rfl,_⟩;(have:=l.1 rfl;simp at this);exact⟨g,c,rfl⟩);have m:=ae (bg z i (by simp<;>omega) (λj e=>by simp[Value.ownBlock] at e;omega));have ZS:=ae (q.trans (m.mono (by omega)));have C:=(m.cell (p:=(Q (A (h w)+1) 0 Y)) (by simp)).trans o;have lz:=(m.frozen (p:=(Q (A (h w)+1) 0 Y)) (by simp)).trans z0;have B:=ae (aA (aC (R:=A (h w)+1) (j:=0) ZX (by omega) (Z (T (Q g 0 Y)) n c)) (base':=A (h w)) (by omega));clear ZX i l o D z0);exact bp (v:=ZH #[Z (T (Q g 0 Y)) n c]) (by simp[results,results50,go_sem,C]) rfl ⟨g,c,rfl,B,ZS.setCell (by simp) _⟩
def bw (x:Source):List ZD:=[U x.e,U x.B]
theorem r8 (a:Option Addr)(cap:Nat)(w:G):Calls Pg 50 #[ZH #[Z a 0 cap]] w λe s=>∃g c,e=ZG (ZH #[Z (T (Q g 0 Y)) 0 c])/\s.ownsRow (A (h w)) 90 3 (Z (T (Q g 0 Y)) 0 c) 0 []/\Below (A (h w)) w s:=by
 have hz:A (h (ZT (ZT w (N #[Z a 0 cap] 41)) (N #[Z (T (Q (A (h w)+1+1) 0 Y)) 0 0] 41)))=A (h w)+1+1:=by simp
 have z:=ae ((((q9 w).alloc ly (N #[Z a 0 cap] 41)).alloc (by simp) (N #[Z (T (Q (A (h w)+1+1) 0 Y)) 0 0] 41)).alloc (by rw[hz];omega) (N #[] 90));have q:Hid ((ZT (ZT (ZT w (N #[Z a 0 cap] 41)) (N #[Z (T (Q (A (h w)+1+1) 0 Y)) 0 0] 41)) (N #[] 90)).ownsRow (A (h w)) 90 3 (Z (T (Q (A (h w)+1+1) 0 Y)) 0 0) 0 []):=by have ZX:=LK (base:=A (h w)) (e:=90) (size:=3) (ZT (ZT w (N #[Z a 0 cap] 41)) (N #[Z (T (Q (A (h w)+1+1) 0 Y)) 0 0] 41)) #[] 0 (by rw[hz];omega) (by unfold maxLen;omega) rfl;rw[hz] at ZX;exact ZX
 have m:ZU (ZT (ZT w (N #[Z a 0 cap] 41)) (N #[Z Y 0 0] 41)) (Q (A (h w)+1) 0 Y)=T (Z Y 0 0):=by simp
 have r:ZU (ZT (ZT w (N #[Z a 0 cap] 41)) (N #[Z Y 0 0] 41)) (Q (A (h w)) 0 Y)=T (Z a 0 cap):=by simp
 have z0:(ZT (ZT w (N #[Z a 0 cap] 41)) (N #[Z Y 0 0] 41)).frozen? (Q (A (h w)+1) 0 Y)=ZB:=by simp
 cases a with
 |none =>clear m r z0;go_enter func50,ntmps50;go_wp2;exact bp (v:=ZH #[Z (T (Q (A (h w)+1+1) 0 Y)) 0 0]) (by simp[results,results50,go_sem]) rfl ⟨_,_,rfl,q,z⟩
 |some l =>
  have D:=ae (((q9 w).alloc ly (N #[Z (T l) 0 cap] 41)).alloc (by simp) (N #[Z Y 0 0] 41));have hz2:A (h (ZT (ZT w (N #[Z (T l) 0 cap] 41)) (N #[Z Y 0 0] 41)))=A (h w)+1+1:=by simp
  obtain⟨x,hi,ZW,y,t⟩:=KQ mW;have C:=ae ((cM (A (h w)+1+1) (ZT (ZT w (N #[Z (T l) 0 cap] 41)) (N #[Z Y 0 0] 41))).alloc (by simp) (N #[] 90));clear z q hz;go_enter func50,ntmps50;go_wp2_with (at_builtin;refine DD _ rfl (.tmp 3) (.tmp 5) 39 rfl (A (h w)+1+1) 90 x (ZH #[J I 0,U ⟨#[]⟩,J I 0]) 3 32 MB hi ZW y t rfl (by decide) (Z (T (Q (A (h w)+1+1) 0 Y)) 0 0) 0 [] (by simp[Act.eval]) (by have:=LK (base:=A (h w)+1+1) (e:=90) (size:=3) (ZT (ZT w (N #[Z (T l) 0 cap] 41)) (N #[Z Y 0 0] 41)) #[] 0 (by simp) (by unfold maxLen;omega) rfl;simpa using this) l 0 cap [] (by simp[Act.eval]) rfl (λj u n=>by simp at n) (λu n=>by simp at n) (by unfold maxLen;omega) (by omega) (by simp<;>omega) ?_;intro H w2 b f i;simp only[E4,J2] at b;obtain⟨g,c,rfl⟩:∃g c,H=Z (T (Q g 0 Y)) 0 c:=(by rcases b.2 with ⟨rfl,_⟩|⟨g,c,cur,rfl,_⟩;(have:=i.1 rfl;simp at this);exact⟨g,c,rfl⟩);have o:=ae (bg C f (by simp<;>omega) (λj e=>by simp[Value.ownBlock] at e;omega));have ZS:=ae (D.trans (o.mono (by omega)));have E:=(o.cell (p:=(Q (A (h w)+1) 0 Y)) (by simp)).trans m;have lz:=(o.frozen (p:=(Q (A (h w)+1) 0 Y)) (by simp)).trans z0;have B:=ae (aA (aC (R:=A (h w)+1) (j:=0) b (by omega) (Z (T (Q g 0 Y)) 0 c)) (base':=A (h w)) (by omega));clear b f i m r z0);exact bp (v:=ZH #[Z (T (Q g 0 Y)) 0 c]) (by simp[results,results50,go_sem,E]) rfl ⟨g,c,rfl,B,ZS.setCell (by simp) _⟩
theorem iN (a:Option Addr)(n cap:Nat)(f:Nat->Ins)(w:G)(hn:(n:Int)<=1048576)(ZX:SlIns w a n f):Calls Pg 50 #[ZH #[Z a n cap]] w λe i=>∃g c,e=ZG (ZH #[Z (T (Q g 0 Y)) n c])/\i.ownsRow (A (h w)) 90 3 (Z (T (Q g 0 Y)) n c) n (bK f n)/\Below (A (h w)) w i:=by
 rcases ZX with rfl|⟨b,off,rfl,ZX⟩
 {exact r8 a cap w};{exact iM b off n cap f w hn ZX}
