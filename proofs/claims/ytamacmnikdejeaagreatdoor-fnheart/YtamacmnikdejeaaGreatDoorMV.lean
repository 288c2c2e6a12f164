import Derived.Test.YtamacmnikdejeaaGreatDoorML
import Derived.Lib.SliceRun
import Derived.Lib.ItoaNum
import Derived.Lib.ItoaLen
import Derived.Lib.ItoaMem
import Derived.Lib.SmallJoins
set_option maxRecDepth 100000
set_option maxHeartbeats 2000000
open Go renaming Addr.mk->Q,Value.slice->Y,Value.string->U,Value.int->J,Value.agg->ZG,Obj.cells->N,IntKind.i64->I,World->E,Value->ZB,TypeId->ZH,Ending.returned->ZF,World.heap->A,World.alloc->z,Proofs.Tryz.prog->Pg
open Option renaming none->Z,some->T
open Bool renaming false->ZA
open Array renaming size->B
namespace Go.Proofs.YtamacmnikdejeaaGreatDoor.Vp
open Tryz RowKit
variable {n g size cap b j:Nat}{w:E}{e:ZH}{f:Nat->Ins}{i:List ZB}
def Cells (w:E)(b off m:Nat)(F:Nat->ZB):Prop:=b<B (A w)/\∀j,j<m->w.cell? (Q b (off+j) Z)=T (F j)/\w.frozen? (Q b (off+j) Z)=ZA
structure Touch (P:Nat->Prop)(w w':E):Prop where
 os:w'.os=w.os
 tape:w'.tape=w.tape
 output:w'.output=w.output
 size:B (A w)<=B (A w')
 block:∀k,k<B (A w)->¬ P k->w'.heap[k]?=w.heap[k]?
theorem tB (x:Int)(b:UInt8)(h:x=b.toNat)(w:E)(g:Nat)(f:w.cell? (Q g 0 Z)=T (J .u8 x)):(convert 22 9 (Y (T (Q g 0 Z)) 1 1)).run Pg w=.ok (U ⟨#[b]⟩) w:=by
 refine SG _ 22 9 5 (Q g 0 Z) 1 [b] NL MQ KT ?_;intro j i;obtain rfl:j=0:=by simpa using i
 simp[Addr.add,f,h]
def dig (n:Nat):UInt8:=UInt8.ofNat (48+n)
theorem digit (n:Nat)(h:n<10):(48+(n:Int))=(dig n).toNat:=by unfold dig;rw[UInt8.toNat_ofNat'];omega
theorem qv (h:¬ n<10):Lib.decDigits n=Lib.decDigits (n / 10)++[dig (n % 10)]:=by rw[Lib.decDigits,dif_neg h];rfl
theorem gU (n:Nat)(h:n<10)(w:E):Calls Pg 81 #[J I n] w λe b=>e=ZF (U ⟨#[dig n]⟩)/\Below (B (A w)) w b:=by have hcv:=tB (48+(n:Int)) _ (digit n h);go_enter func81,ntmps81;go_wp2;go_ret;exact⟨rfl,br.alloc ly _⟩
theorem rq (n:Nat):n<=9223372036854775807->∀w:E,
  Calls Pg 81 #[J I n] w λe g=>e=ZF (U ⟨(Lib.decDigits n).toArray⟩)/\Below (B (A w)) w g:=by
 induction n using Nat.strongRecOn with
 |ind n i =>
  intro hn w;by_cases h:n<10;{rw[Lib.decDigits_one h];exact gU n h w}
  ·have f:∀w:E,Calls Pg 81 #[J I ((n:Int) / 10)] w λe g=>e=ZF (U ⟨(Lib.decDigits (n / 10)).toArray⟩)/\Below (B (A w)) w g:=λw=>i (n / 10) (by omega) (by omega) w;have j:=ae f;clear i f;have hcv:=tB (48+(n:Int) % 10) (dig (n % 10)) (by have:=digit (n % 10) (by omega);omega);have q1:IntKind.i64.wrap ((n:Int) / 10)=(n:Int) / 10:=by rw[p9];omega
   have q2:IntKind.i64.wrap ((n:Int) % 10)=(n:Int) % 10:=by rw[p9];omega
   have q3:IntKind.i64.wrap (48+(n:Int) % 10)=48+(n:Int) % 10:=by rw[p9];omega
   have q5:(n:Int).tmod 10=(n:Int) % 10:=NR (by omega);have hl:(Lib.decDigits (n / 10)).length<=21:=by rw[<-Lib.itoa_nonneg];exact Lib.itoa_length_le _ (by omega) (by omega)
   have q4:IntKind.u8.wrap (48+(n:Int) % 10)=48+(n:Int) % 10:=by rw[TW];omega
   go_enter func81,ntmps81;go_wp2_with fail;go_region_with (go_at_call 81;refine(j _).mono ?_;rintro e w1 ⟨rfl,b⟩;have hc1:=(GF b).1);all_goals
    go_wp2;go_ret;refine⟨fV ?_,?_⟩
    ·rw[qv h]
     apply UY;simp
    ·first
      |exact(br.drew.trans b).alloc b.size _
      |exact((br.alloc ly _).drew).trans (b.mono (by simp))
def F3 (k:Nat):UInt8:=([48,49,50,51,52,53,54,55,56,57,97,98,99,100,101,102]:List UInt8).getD k 0
def GQ (c:UInt8):List UInt8:=[F3 (c.toNat / 16),F3 (c.toNat % 16)]
def F7 (c:UInt8):Bool:=decide (32<=c.toNat/\c.toNat<=126/\c.toNat≠34/\c.toNat≠92)
def enc (c:UInt8):List UInt8:=if F7 c=true then [c] else 92::GQ c
theorem EF (n:Nat)(h:n<=2000):(Lib.decDigits n).length<=21:=by rw[<-Lib.itoa_nonneg];exact Lib.itoa_length_le _ (by omega) (by omega)
theorem xM (x y ZT:Int)(a b c:UInt8)(i:x=a.toNat)(l:y=b.toNat)(hz:ZT=c.toNat)(w:E)(g:Nat)(m:w.cell? (Q g 0 Z)=T (J .u8 x))(h1:w.cell? (Q g 1 Z)=T (J .u8 y))(h2:w.cell? (Q g 2 Z)=T (J .u8 ZT)):(convert 22 9 (Y (T (Q g 0 Z)) 3 3)).run Pg w=.ok (U ⟨#[a,b,c]⟩) w:=by
 refine SG _ 22 9 5 (Q g 0 Z) 3 [a,b,c] NL MQ KT ?_;intro j f;have f:j<3:=f;match j,f with
 |0,_=>simp[Addr.add,m,i]
 |1,_=>simp[Addr.add,h1,l]
 |2,_=>simp[Addr.add,h2,hz]
 |k+3,h=>exact absurd h (by omega)
theorem jQ (i:Nat)(h:i<1000)(w:E):Calls Pg 83 #[J I i] w λe b=>∃s:ByteArray,e=ZF (U s)/\s.size<=4/\Below (B (A w)) w b:=by
 have hcv:=xM (48+(i:Int) / 100) (48+(i:Int) / 10 % 10) (48+(i:Int) % 10) (dig (i / 100)) (dig (i / 10 % 10)) (dig (i % 10)) (by have:=digit (i / 100) (by omega);omega) (by have:=digit (i / 10 % 10) (by omega);omega) (by have:=digit (i % 10) (by omega);omega);have q1:IntKind.i64.wrap ((i:Int) / 100)=(i:Int) / 100:=by rw[p9];omega
 have q2:IntKind.i64.wrap ((i:Int) / 10)=(i:Int) / 10:=by rw[p9];omega
 have q3:IntKind.i64.wrap ((i:Int) / 10 % 10)=(i:Int) / 10 % 10:=by rw[p9];omega
 have q4:IntKind.i64.wrap ((i:Int) % 10)=(i:Int) % 10:=by rw[p9];omega
 have q5:(i:Int).tmod 10=(i:Int) % 10:=NR (by omega);have q6:((i:Int) / 10).tmod 10=(i:Int) / 10 % 10:=NR (by omega);have r1:IntKind.i64.wrap (48+(i:Int) / 100)=48+(i:Int) / 100:=by rw[p9];omega
 have r2:IntKind.i64.wrap (48+(i:Int) / 10 % 10)=48+(i:Int) / 10 % 10:=by rw[p9];omega
 have r3:IntKind.i64.wrap (48+(i:Int) % 10)=48+(i:Int) % 10:=by rw[p9];omega
 have s1:IntKind.u8.wrap (48+(i:Int) / 100)=48+(i:Int) / 100:=by rw[TW];omega
 have s2:IntKind.u8.wrap (48+(i:Int) / 10 % 10)=48+(i:Int) / 10 % 10:=by rw[TW];omega
 have s3:IntKind.u8.wrap (48+(i:Int) % 10)=48+(i:Int) % 10:=by rw[TW];omega
 go_enter func83,ntmps83;go_wp2;go_ret;refine⟨_,rfl,?_,br.alloc ly _⟩;simp only[MO];exact nX 4
theorem addr_add (b off j:Nat):((Q b off Z):Addr).add j=(Q b (off+j) Z):=by unfold Addr.add;split<;>simp_all
theorem cK {f:Type}(g:f->List ZB)(C:Nat)(b:∀x,(g x).length=C):∀(L:List f) (i j:Nat) (_:j<C) (x:f),L[i]?=T x->(L.flatMap g)[i*C+j]?=(g x)[j]?
 |[],i,j,_,x,h=>by simp at h
 |y::L,0,j,hj,x,h=>by simp at h;subst h;rw[LI,QO,IT,KP (by rw[b];exact hj)]
 |y::L,i+1,j,hj,x,h=>by simp at h;rw[LI,KL (by rw[b,Nat.succ_mul];omega),b,show(i+1)*C+j - C=i*C+j by rw[Nat.succ_mul];omega];exact cK g C b L i j hj x h
theorem eY {f:Type}(g:f->List ZB)(C:Nat)(b:∀x,(g x).length=C):∀L:List f,(L.flatMap g).length=L.length*C
 |[]=>by simp
 |y::L=>by rw[LI,eL,b,eY g C b L,xT,Nat.succ_mul];omega
def kM (x:Ins):List ZB:=[J I x.op,U x.s,J I x.n]
def bV (f:Nat->Ins)(n:Nat):List ZB:=((List.range n).map f).flatMap kM
theorem kN (f:Nat->Ins)(n:Nat):(bV f n).length=n*3:=by rw[bV,eY kM 3 (λ_=>rfl)];simp
theorem ng (f:Nat->Ins){i:Nat}(hi:i<n)(j:Nat)(b:j<3):(bV f n)[i*3+j]?=(kM (f i))[j]? :=
 cK kM 3 (λ_=>rfl) _ i j b (f i) (by simp[hi])
theorem tC (f:Nat->Ins)(n:Nat):∀u∈bV f n,u.oneCell'=true:=by intro u g;simp only[bV,NE,kM] at g;obtain⟨x,_,b⟩:=g;simp at b;rcases b with rfl|rfl|rfl<;>simp[Value.oneCell']
theorem qw{off:Nat}(h:RowIns w b off n f):∀j u,(bV f n)[j]?=T u->w.cell? (((Q b off Z):Addr).add j)=T u:=by
 intro j u g;have hl:j<n*3:=by have:=(j5.1 g).1;rwa[kN] at this
 have e:j=j / 3*3+j % 3:=by omega
 have hi:j / 3<n:=by omega
 obtain⟨i,h1,h2⟩:=h.2 (j / 3) hi;have m:j % 3<3:=QE _ (by omega);rw[e,ng f hi (j % 3) m] at g;have l:((Q b off Z):Addr).add j=(Q b (off+j) Z):=addr_add _ _ _;rw[l];rcases(show j % 3=0∨j % 3=1∨j % 3=2 by omega) with q|q|q;all_goals rw[q] at g;simp[kM] at g;subst g
 {rw[show off+j=off+j / 3*3 by omega];exact i};{rw[show off+j=off+j / 3*3+1 by omega];exact h1};{rw[show off+j=off+j / 3*3+2 by omega];exact h2}
theorem bk{f:Nat}(h:w.ownsRow f e size (Y (T (Q g 0 Z)) n cap) n i){u:ZB}(o:i[j]?=T u):w.cell? (Q g j Z)=T u/\w.frozen? (Q g j Z)=ZA:=by
 refine⟨?_,?_⟩
 ·have:=h.cells (g:=g) rfl j u o;have m:((Q g 0 Z):Addr).add j=(Q g j Z):=by rw[addr_add];simp
  rwa[m] at this
 ·rcases h.2 with ⟨b,_⟩|⟨g',cap',cur,b,_,l,_⟩
  {simp at b};{simp at b;obtain⟨rfl,rfl⟩:=b;simp[World.frozen?,l]}
theorem cO{f:List ZB}(h:w.ownsRow b e size (Y (T (Q g 0 Z)) n cap) n f):b<=g/\g<B (A w):=h.lt g rfl
def TypeAt (w:E)(g:Nat)(e:ZH):Prop:=∃b,w.heap[g]?=T (N b e (0,0))
theorem jf{f:Nat}{l:List ZB}(h:w.ownsRow f e size (Y (T (Q g 0 Z)) n cap) n l):TypeAt w g e:=by
 rcases h.2 with ⟨b,_⟩|⟨g',cap',i,b,_,j,_⟩
 {simp at b};{simp at b;obtain⟨rfl,rfl⟩:=b;exact⟨i,j⟩}
theorem eE{k:Nat}{f:ZH}(h:TypeAt w g e)(l:TypeAt w k f)(i:e≠f):g≠k:=by rintro rfl;obtain⟨c,j⟩:=h;obtain⟨d,b⟩:=l;rw[j] at b;simp at b;exact i b.2
theorem aE{R:Nat}{v:ZB}(h:w.ownsRow b e size v n i)(hR:R<b)(u:ZB):(w.setCell (Q R j Z) u).ownsRow b e size v n i:=by
 refine h.kept (row:=T R) ⟨rfl,rfl,rfl,by simp[World.setCell],λk _ f=>qh _ _ _ _ (by simpa using f)⟩ ?_;rcases h.2 with ⟨rfl,_⟩|⟨g,cap,cur,rfl,hg,_⟩
 {exact .inl rfl};{right;simp[Value.ownBlock];omega}
theorem j8{l:Nat}(h:w.ownsRow l 146 3 (Y (T (Q g 0 Z)) n cap) n (bV f n)):RowIns w g 0 n f/\∃F,Cells w g 0 (n*3) F:=by
 have b:=(cO h).2;refine⟨⟨b,λi hi=>⟨?_,?_,?_⟩⟩,λj=>(bV f n)[j]?.getD undef,b,λj o=>?_⟩;{have:=(bk h (j:=i*3) (u:=J I (f i).op) (by have:=ng f hi 0 (by omega);simpa[kM] using this)).1;rwa[show 0+i*3=i*3 by omega]};{have:=(bk h (j:=i*3+1) (u:=U (f i).s) (by have:=ng f hi 1 (by omega);simpa[kM] using this)).1;rwa[show 0+i*3+1=i*3+1 by omega]};{have:=(bk h (j:=i*3+2) (u:=J I (f i).n) (by have:=ng f hi 2 (by omega);simpa[kM] using this)).1;rwa[show 0+i*3+2=i*3+2 by omega]}
 ·rw[IT];have m:j<(bV f n).length:=by rw[kN];exact o
  have:=bk h (j:=j) (u:=(bV f n)[j]) (by rw[gq m]);show w.cell? _=T ((bV f n)[j]?.getD undef)/\_;rw[gq m];exact this
theorem zo (b off n cap:Nat)(f:Nat->Ins)(w:E)(hn:(n:Int)<=1048576)(m:RowIns w b off n f):Calls Pg 162 #[Y (T (Q b off Z)) n cap] w λe u=>∃g c,e=ZF (Y (T (Q g 0 Z)) n c)/\u.ownsRow (B (A w)) 146 3 (Y (T (Q g 0 Z)) n c) n (bV f n)/\Below (B (A w)) w u:=by
 have s:=ae ((BS w).alloc ly (N #[] 146));have x:=ae (m.aa s ly);clear m;obtain⟨r,hi,q,o,t⟩:=KZ nd;have hnl:∀w:E,(binOp .eql 41 (Y (T (Q b off Z)) n cap) (Y Z 0 0)).run Pg w=.ok (.bool ZA) w:=λw=>Lib.run_eql_slice_nil w _ _ _ _ _ _ _ MV;go_enter func162,ntmps162;go_wp2_with (at_builtin;refine E4 _ rfl (.tmp 5) (.tmp 6) 41 rfl (B (A w)) 146 r (ZG #[J I 0,U ⟨#[]⟩,J I 0]) 3 32 MV hi q o t rfl (by decide) (Y (T (Q (B (A w)) 0 Z)) 0 0) 0 [] (by simp[Act.eval]) (LV w #[] 0 ly (by unfold maxLen;omega) rfl) (Q b off Z) n cap (bV f n) (by simp[Act.eval]) (kN f n) (qw x) (tC f n) (by unfold maxLen;omega) (by omega) (by simp) ?_;intro v' w2 h i l;simp only[IT,LA] at h;have p:=ae h;have ZT:=ae l;have y:=ae (bg s i (by simp) (λj e=>by simp[Value.ownBlock] at e;omega));clear h i l);go_ret;rcases p.2 with ⟨rfl,_⟩|⟨g,c,cur,rfl,_⟩
 {have:=ZT.1 rfl;simp at this};{exact⟨g,c,rfl,p,y⟩}
theorem px (b off n cap:Nat)(f:Nat->Ins)(w:E)(hn:(n:Int)<=1048576)(i:RowIns w b off n f):Calls Pg 128 #[ZG #[Y (T (Q b off Z)) n cap]] w λe q=>∃g c,e=ZF (ZG #[Y (T (Q g 0 Z)) n c])/\q.ownsRow (B (A w)) 146 3 (Y (T (Q g 0 Z)) n c) n (bV f n)/\Below (B (A w)) w q:=by
 have m:=ae (((BS w).alloc ly (N #[Y (T (Q b off Z)) n cap] 43)).alloc (by simp) (N #[Y Z 0 0] 43));have u:=ae (i.aa m ly);have o:((z w (N #[Y (T (Q b off Z)) n cap] 43)).alloc (N #[Y Z 0 0] 43)).cell? (Q (B (A w)+1) 0 Z)=T (Y Z 0 0):=by simp
 clear i;go_enter func128,ntmps128;go_wp2_with fail;refine(zo b off n cap f _ hn u).mono ?_;rintro e x ⟨g,c,rfl,l,h⟩;have s:=(h.cell (p:=(Q (B (A w)+1) 0 Z)) (by simp)).trans o;have t:=ae (aF (aE (R:=B (A w)+1) (j:=0) l (by simp) (Y (T (Q g 0 Z)) n c)) (base':=B (A w)) (by simp;omega));have r:=ae ((m.trans (h.mono (by simp;omega))).setCell (p:=(Q (B (A w)+1) 0 Z)) (by simp) (Y (T (Q g 0 Z)) n c));have z0:x.frozen? (Q (B (A w)+1) 0 Z)=ZA:=(h.frozen (p:=(Q (B (A w)+1) 0 Z)) (by simp)).trans (by simp);clear l h o;go_wp2;exact bp (v:=ZG #[Y (T (Q g 0 Z)) n c]) (by simp[results,results128,go_sem,s]) rfl ⟨g,c,rfl,t,r⟩
theorem iz (b off n cap:Nat)(f:Nat->Ins)(w:E)(hn:(n:Int)<=1048576)(o:RowIns w b off n f):Calls Pg 67 #[ZG #[Y (T (Q b off Z)) n cap]] w λe ZS=>∃g c,e=ZF (ZG #[Y (T (Q g 0 Z)) n c])/\ZS.ownsRow (B (A w)) 146 3 (Y (T (Q g 0 Z)) n c) n (bV f n)/\Below (B (A w)) w ZS:=by
 have x:=ae (((BS w).alloc ly (N #[Y (T (Q b off Z)) n cap] 43)).alloc (by simp) (N #[Y Z 0 0] 43));have y:((z w (N #[Y (T (Q b off Z)) n cap] 43)).alloc (N #[Y Z 0 0] 43)).cell? (Q (B (A w)+1) 0 Z)=T (Y Z 0 0):=by simp
 have H:((z w (N #[Y (T (Q b off Z)) n cap] 43)).alloc (N #[Y Z 0 0] 43)).cell? (Q (B (A w)) 0 Z)=T (Y (T (Q b off Z)) n cap):=by simp
 have z0:((z w (N #[Y (T (Q b off Z)) n cap] 43)).alloc (N #[Y Z 0 0] 43)).frozen? (Q (B (A w)+1) 0 Z)=ZA:=by simp
 have hz:((z w (N #[Y (T (Q b off Z)) n cap] 43)).alloc (N #[Y Z 0 0] 43)).heap.size=B (A w)+1+1:=by simp
 have r:=ae (o.aa x ly);clear o;obtain⟨s,hi,ZT,u,t⟩:=KZ nd;go_enter func67,ntmps67;have q:=ae ((cM (B (A w)+1+1) ((z w (N #[Y (T (Q b off Z)) n cap] 43)).alloc (N #[Y Z 0 0] 43))).alloc (by simp) (N #[] 146));have C:=ae (r.aa q (by simp));go_wp2_with (at_builtin;refine E4 _ rfl (.tmp 3) (.tmp 5) 41 rfl (B (A w)+1+1) 146 s (ZG #[J I 0,U ⟨#[]⟩,J I 0]) 3 32 MV hi ZT u t rfl (by decide) (Y (T (Q (B (A w)+1+1) 0 Z)) 0 0) 0 [] (by simp[Act.eval]) (by have:=LV (base:=B (A w)+1+1) (e:=146) (size:=3) ((z w (N #[Y (T (Q b off Z)) n cap] 43)).alloc (N #[Y Z 0 0] 43)) #[] 0 (by simp) (by unfold maxLen;omega) rfl;simpa using this) (Q b off Z) n cap (bV f n) (by simp[Act.eval]) (kN f n) (qw C) (tC f n) (by unfold maxLen;omega) (by omega) (by simp<;>omega) ?_;intro G w2 h i l;simp only[IT,LA] at h;obtain⟨g,c,rfl⟩:∃g c,G=Y (T (Q g 0 Z)) n c:=(by rcases h.2 with ⟨rfl,_⟩|⟨g,c,cur,rfl,_⟩;(have:=l.1 rfl;simp at this);exact⟨g,c,rfl⟩);have m:=ae (bg q i (by simp<;>omega) (λj e=>by simp[Value.ownBlock] at e;omega));have D:=ae (x.trans (m.mono (by omega)));have ZR:=(m.cell (p:=(Q (B (A w)+1) 0 Z)) (by simp)).trans y;have lz:=(m.frozen (p:=(Q (B (A w)+1) 0 Z)) (by simp)).trans z0;have ZQ:=ae (aF (aE (R:=B (A w)+1) (j:=0) h (by omega) (Y (T (Q g 0 Z)) n c)) (base':=B (A w)) (by omega));clear h i l y H z0);exact bp (v:=ZG #[Y (T (Q g 0 Z)) n c]) (by simp[results,results67,go_sem,ZR]) rfl ⟨g,c,rfl,ZQ,D.setCell (by simp) _⟩
def bC (x:Source):List ZB:=[U x.e,U x.H]
theorem sD (a:Option Addr)(cap:Nat)(w:E):Calls Pg 67 #[ZG #[Y a 0 cap]] w λe ZS=>∃g c,e=ZF (ZG #[Y (T (Q g 0 Z)) 0 c])/\ZS.ownsRow (B (A w)) 146 3 (Y (T (Q g 0 Z)) 0 c) 0 []/\Below (B (A w)) w ZS:=by
 have hz:((z w (N #[Y a 0 cap] 43)).alloc (N #[Y (T (Q (B (A w)+1+1) 0 Z)) 0 0] 43)).heap.size=B (A w)+1+1:=by simp
 have q:=ae ((((BS w).alloc ly (N #[Y a 0 cap] 43)).alloc (by simp) (N #[Y (T (Q (B (A w)+1+1) 0 Z)) 0 0] 43)).alloc (by rw[hz];omega) (N #[] 146));have x:Hid ((((z w (N #[Y a 0 cap] 43)).alloc (N #[Y (T (Q (B (A w)+1+1) 0 Z)) 0 0] 43)).alloc (N #[] 146)).ownsRow (B (A w)) 146 3 (Y (T (Q (B (A w)+1+1) 0 Z)) 0 0) 0 []):=by have h:=LV (base:=B (A w)) (e:=146) (size:=3) ((z w (N #[Y a 0 cap] 43)).alloc (N #[Y (T (Q (B (A w)+1+1) 0 Z)) 0 0] 43)) #[] 0 (by rw[hz];omega) (by unfold maxLen;omega) rfl;rw[hz] at h;exact h
 have n:((z w (N #[Y a 0 cap] 43)).alloc (N #[Y Z 0 0] 43)).cell? (Q (B (A w)+1) 0 Z)=T (Y Z 0 0):=by simp
 have y:((z w (N #[Y a 0 cap] 43)).alloc (N #[Y Z 0 0] 43)).cell? (Q (B (A w)) 0 Z)=T (Y a 0 cap):=by simp
 have z0:((z w (N #[Y a 0 cap] 43)).alloc (N #[Y Z 0 0] 43)).frozen? (Q (B (A w)+1) 0 Z)=ZA:=by simp
 cases a with
 |none =>clear n y z0;go_enter func67,ntmps67;go_wp2;exact bp (v:=ZG #[Y (T (Q (B (A w)+1+1) 0 Z)) 0 0]) (by simp[results,results67,go_sem]) rfl ⟨_,_,rfl,x,q⟩
 |some l =>
  have ZQ:=ae (((BS w).alloc ly (N #[Y (T l) 0 cap] 43)).alloc (by simp) (N #[Y Z 0 0] 43));have hz2:((z w (N #[Y (T l) 0 cap] 43)).alloc (N #[Y Z 0 0] 43)).heap.size=B (A w)+1+1:=by simp
  obtain⟨r,hi,ZT,t,s⟩:=KZ nd;have H:=ae ((cM (B (A w)+1+1) ((z w (N #[Y (T l) 0 cap] 43)).alloc (N #[Y Z 0 0] 43))).alloc (by simp) (N #[] 146));clear q x hz;go_enter func67,ntmps67;go_wp2_with (at_builtin;refine E4 _ rfl (.tmp 3) (.tmp 5) 41 rfl (B (A w)+1+1) 146 r (ZG #[J I 0,U ⟨#[]⟩,J I 0]) 3 32 MV hi ZT t s rfl (by decide) (Y (T (Q (B (A w)+1+1) 0 Z)) 0 0) 0 [] (by simp[Act.eval]) (by have:=LV (base:=B (A w)+1+1) (e:=146) (size:=3) ((z w (N #[Y (T l) 0 cap] 43)).alloc (N #[Y Z 0 0] 43)) #[] 0 (by simp) (by unfold maxLen;omega) rfl;simpa using this) l 0 cap [] (by simp[Act.eval]) rfl (λj u o=>by simp at o) (λu o=>by simp at o) (by unfold maxLen;omega) (by omega) (by simp<;>omega) ?_;intro G w2 b f i;simp only[IT,LA] at b;obtain⟨g,c,rfl⟩:∃g c,G=Y (T (Q g 0 Z)) 0 c:=(by rcases b.2 with ⟨rfl,_⟩|⟨g,c,cur,rfl,_⟩;(have:=i.1 rfl;simp at this);exact⟨g,c,rfl⟩);have m:=ae (bg H f (by simp<;>omega) (λj e=>by simp[Value.ownBlock] at e;omega));have C:=ae (ZQ.trans (m.mono (by omega)));have ZR:=(m.cell (p:=(Q (B (A w)+1) 0 Z)) (by simp)).trans n;have lz:=(m.frozen (p:=(Q (B (A w)+1) 0 Z)) (by simp)).trans z0;have D:=ae (aF (aE (R:=B (A w)+1) (j:=0) b (by omega) (Y (T (Q g 0 Z)) 0 c)) (base':=B (A w)) (by omega));clear b f i n y z0);exact bp (v:=ZG #[Y (T (Q g 0 Z)) 0 c]) (by simp[results,results67,go_sem,ZR]) rfl ⟨g,c,rfl,D,C.setCell (by simp) _⟩
theorem iA (a:Option Addr)(n cap:Nat)(f:Nat->Ins)(w:E)(hn:(n:Int)<=1048576)(h:SlIns w a n f):Calls Pg 67 #[ZG #[Y a n cap]] w λe i=>∃g c,e=ZF (ZG #[Y (T (Q g 0 Z)) n c])/\i.ownsRow (B (A w)) 146 3 (Y (T (Q g 0 Z)) n c) n (bV f n)/\Below (B (A w)) w i:=by
 rcases h with rfl|⟨b,off,rfl,h⟩
 {exact sD a cap w};{exact iz b off n cap f w hn h}
