import Derived.Test.YtpmnbjkjpnclaaaGreatDoorMM
import Derived.Lib.SliceRun
import Derived.Lib.ItoaNum
import Derived.Lib.ItoaLen
import Derived.Lib.ItoaMem
import Derived.Lib.SmallJoins
set_option maxRecDepth 100000
set_option maxHeartbeats 2000000
open Go renaming Addr.mk->N,Value.slice->Y,Value.string->U,Value.int->Q,Value.agg->ZG,Obj.cells->J,IntKind.i64->I,World->M,Value->ZB,TypeId->ZH,Ending.returned->ZD,World.heap->B,World.alloc->z,Proofs.Tryz.prog->Pg
open Option renaming none->Z,some->T
open Bool renaming false->ZA
open Array renaming size->A
namespace Go.Proofs.YtpmnbjkjpnclaaaGreatDoor.Vp
open Tryz RowKit
variable {n g size cap b j:Nat}{w:M}{e:ZH}{f:Nat->Ins}{i:List ZB}
def Cells (w:M)(b off m:Nat)(F:Nat->ZB):Prop:=b<A (B w)/\∀j,j<m->w.cell? (N b (off+j) Z)=T (F j)/\w.frozen? (N b (off+j) Z)=ZA
structure Touch (P:Nat->Prop)(w w':M):Prop where
 os:w'.os=w.os
 tape:w'.tape=w.tape
 output:w'.output=w.output
 size:A (B w)<=A (B w')
 block:∀k,k<A (B w)->¬ P k->w'.heap[k]?=w.heap[k]?
structure Acc where
 n:Nat
 f:Nat->aj
def mL (x:Acc):Prop:=(x.n:Int)<=9223372036854775807/\∀i,i<x.n->eQ (x.f i)
def o6 (x:Acc):Prop:=x.n<=1048576/\∀i,i<x.n->dQ (x.f i)
theorem CJ:(Pg.info? 37).map (λi=>(i.zero,i.size,i.bytes))=T (T (ZG #[Y Z 0 0]),1,24):=by kernel_rfl
theorem rI (x:Int)(b:UInt8)(h:x=b.toNat)(w:M)(g:Nat)(i:w.cell? (N g 0 Z)=T (Q .u8 x)):(convert 22 9 (Y (T (N g 0 Z)) 1 1)).run Pg w=.ok (U ⟨#[b]⟩) w:=by
 refine QE _ 22 9 5 (N g 0 Z) 1 [b] L9 LB IN ?_;intro j f;obtain rfl:j=0:=by simpa using f
 simp[Addr.add,i,h]
def dig (n:Nat):UInt8:=UInt8.ofNat (48+n)
theorem digit (n:Nat)(h:n<10):(48+(n:Int))=(dig n).toNat:=by unfold dig;rw[UInt8.toNat_ofNat'];omega
theorem o7 (h:¬ n<10):Lib.decDigits n=Lib.decDigits (n / 10)++[dig (n % 10)]:=by rw[Lib.decDigits,dif_neg h];rfl
theorem jm (n:Nat)(h:n<10)(w:M):Calls Pg 104 #[Q I n] w λe b=>e=ZD (U ⟨#[dig n]⟩)/\Below (A (B w)) w b:=by have hcv:=rI (48+(n:Int)) _ (digit n h);go_enter func104,ntmps104;go_wp2;go_ret;exact⟨rfl,br.alloc ly _⟩
theorem kQ (n:Nat):n<=9223372036854775807->∀w:M,
  Calls Pg 104 #[Q I n] w λe g=>e=ZD (U ⟨(Lib.decDigits n).toArray⟩)/\Below (A (B w)) w g:=by
 induction n using Nat.strongRecOn with
 |ind n i =>
  intro hn w;by_cases h:n<10;{rw[Lib.decDigits_one h];exact jm n h w}
  ·have f:∀w:M,Calls Pg 104 #[Q I ((n:Int) / 10)] w λe g=>e=ZD (U ⟨(Lib.decDigits (n / 10)).toArray⟩)/\Below (A (B w)) w g:=λw=>i (n / 10) (by omega) (by omega) w;have j:=ae f;clear i f;have hcv:=rI (48+(n:Int) % 10) (dig (n % 10)) (by have:=digit (n % 10) (by omega);omega);have q1:IntKind.i64.wrap ((n:Int) / 10)=(n:Int) / 10:=by rw[AI];omega
   have q2:IntKind.i64.wrap ((n:Int) % 10)=(n:Int) % 10:=by rw[AI];omega
   have q3:IntKind.i64.wrap (48+(n:Int) % 10)=48+(n:Int) % 10:=by rw[AI];omega
   have q5:(n:Int).tmod 10=(n:Int) % 10:=MO (by omega);have hl:(Lib.decDigits (n / 10)).length<=21:=by rw[<-Lib.itoa_nonneg];exact Lib.itoa_length_le _ (by omega) (by omega)
   have q4:IntKind.u8.wrap (48+(n:Int) % 10)=48+(n:Int) % 10:=by rw[R8];omega
   go_enter func104,ntmps104;go_wp2_with fail;go_region_with (go_at_call 104;refine(j _).mono ?_;rintro e w1 ⟨rfl,b⟩;have hc1:=(Fl b).1);all_goals
    go_wp2;go_ret;refine⟨fw ?_,?_⟩
    ·rw[o7 h]
     apply T0;simp
    ·first
      |exact(br.drew.trans b).alloc b.size _
      |exact((br.alloc ly _).drew).trans (b.mono (by simp))
def Et (k:Nat):UInt8:=([48,49,50,51,52,53,54,55,56,57,97,98,99,100,101,102]:List UInt8).getD k 0
def Fz (c:UInt8):List UInt8:=[Et (c.toNat / 16),Et (c.toNat % 16)]
def Eu (c:UInt8):Bool:=decide (32<=c.toNat/\c.toNat<=126/\c.toNat≠34/\c.toNat≠92)
def enc (c:UInt8):List UInt8:=if Eu c=true then [c] else 92::Fz c
theorem CK (n:Nat)(h:n<=2000):(Lib.decDigits n).length<=21:=by rw[<-Lib.itoa_nonneg];exact Lib.itoa_length_le _ (by omega) (by omega)
theorem wk (x y ZT:Int)(a b c:UInt8)(l:x=a.toNat)(i:y=b.toNat)(hz:ZT=c.toNat)(w:M)(g:Nat)(m:w.cell? (N g 0 Z)=T (Q .u8 x))(h1:w.cell? (N g 1 Z)=T (Q .u8 y))(h2:w.cell? (N g 2 Z)=T (Q .u8 ZT)):(convert 22 9 (Y (T (N g 0 Z)) 3 3)).run Pg w=.ok (U ⟨#[a,b,c]⟩) w:=by
 refine QE _ 22 9 5 (N g 0 Z) 3 [a,b,c] L9 LB IN ?_;intro j f;have f:j<3:=f;match j,f with
 |0,_=>simp[Addr.add,m,l]
 |1,_=>simp[Addr.add,h1,i]
 |2,_=>simp[Addr.add,h2,hz]
 |k+3,h=>exact absurd h (by omega)
theorem FA (i:Nat)(h:i<1000):(∀(w:M) (g:Nat),w.cell? (N g 0 Z)=T (Q .u8 (48+(i:Int) / 100))->w.cell? (N g 1 Z)=T (Q .u8 (48+(i:Int) / 10 % 10))->w.cell? (N g 2 Z)=T (Q .u8 (48+(i:Int) % 10))->(convert 22 9 (Y (T (N g 0 Z)) 3 3)).run Pg w=.ok (U ⟨#[dig (i / 100),dig (i / 10 % 10),dig (i % 10)]⟩) w)/\IntKind.i64.wrap ((i:Int) / 100)=(i:Int) / 100/\IntKind.i64.wrap ((i:Int) / 10)=(i:Int) / 10/\IntKind.i64.wrap ((i:Int) / 10 % 10)=(i:Int) / 10 % 10/\IntKind.i64.wrap ((i:Int) % 10)=(i:Int) % 10/\(i:Int).tmod 10=(i:Int) % 10/\((i:Int) / 10).tmod 10=(i:Int) / 10 % 10/\IntKind.i64.wrap (48+(i:Int) / 100)=48+(i:Int) / 100/\IntKind.i64.wrap (48+(i:Int) / 10 % 10)=48+(i:Int) / 10 % 10/\IntKind.i64.wrap (48+(i:Int) % 10)=48+(i:Int) % 10/\IntKind.u8.wrap (48+(i:Int) / 100)=48+(i:Int) / 100/\IntKind.u8.wrap (48+(i:Int) / 10 % 10)=48+(i:Int) / 10 % 10/\IntKind.u8.wrap (48+(i:Int) % 10)=48+(i:Int) % 10 :=
 ⟨wk (48+(i:Int) / 100) (48+(i:Int) / 10 % 10) (48+(i:Int) % 10) (dig (i / 100)) (dig (i / 10 % 10)) (dig (i % 10)) (by have:=digit (i / 100) (by omega);omega) (by have:=digit (i / 10 % 10) (by omega);omega) (by have:=digit (i % 10) (by omega);omega),(by rw[AI];omega),(by rw[AI];omega),(by rw[AI];omega),(by rw[AI];omega),MO (by omega),MO (by omega),(by rw[AI];omega),(by rw[AI];omega),(by rw[AI];omega),(by rw[R8];omega),(by rw[R8];omega),(by rw[R8];omega)⟩
theorem jn (i:Nat)(h:i<1000)(w:M):Calls Pg 97 #[Q I i] w λe b=>∃s:ByteArray,e=ZD (U s)/\s.size<=4/\Below (A (B w)) w b:=by obtain⟨hcv,q1,q2,q3,q4,q5,q6,r1,r2,r3,s1,s2,s3⟩:=FA i h;go_enter func97,ntmps97;go_wp2;go_ret;refine⟨_,rfl,?_,br.alloc ly _⟩;simp only[KO];exact nX 4
theorem addr_add (b off j:Nat):((N b off Z):Addr).add j=(N b (off+j) Z):=by unfold Addr.add;split<;>simp_all
theorem cF {f:Type}(g:f->List ZB)(C:Nat)(b:∀x,(g x).length=C):∀(L:List f) (i j:Nat) (_:j<C) (x:f),L[i]?=T x->(L.flatMap g)[i*C+j]?=(g x)[j]?
 |[],i,j,_,x,h=>by simp at h
 |y::L,0,j,hj,x,h=>by simp at h;subst h;rw[JZ,OU,JC,JU (by rw[b];exact hj)]
 |y::L,i+1,j,hj,x,h=>by simp at h;rw[JZ,JP (by rw[b,Nat.succ_mul];omega),b,show(i+1)*C+j - C=i*C+j by rw[Nat.succ_mul];omega];exact cF g C b L i j hj x h
theorem ek {f:Type}(g:f->List ZB)(C:Nat)(b:∀x,(g x).length=C):∀L:List f,(L.flatMap g).length=L.length*C
 |[]=>by simp
 |y::L=>by rw[JZ,eL,b,ek g C b L,BG,Nat.succ_mul];omega
def jO (x:Ins):List ZB:=[Q I x.op,U x.s,Q I x.n]
def bX (f:Nat->Ins)(n:Nat):List ZB:=((List.range n).map f).flatMap jO
theorem mM (f:Nat->Ins)(n:Nat):(bX f n).length=n*3:=by rw[bX,ek jO 3 (λ_=>rfl)];simp
theorem lS (f:Nat->Ins){i:Nat}(hi:i<n)(j:Nat)(b:j<3):(bX f n)[i*3+j]?=(jO (f i))[j]? :=
 cF jO 3 (λ_=>rfl) _ i j b (f i) (by simp[hi])
theorem zI (f:Nat->Ins)(n:Nat):∀u∈bX f n,u.oneCell'=true:=by intro u b;simp only[bX,LN,jO] at b;obtain⟨x,_,g⟩:=b;simp at g;rcases g with rfl|rfl|rfl<;>simp[Value.oneCell']
theorem uQ{off:Nat}(h:RowIns w b off n f):∀j u,(bX f n)[j]?=T u->w.cell? (((N b off Z):Addr).add j)=T u:=by
 intro j u g;have hl:j<n*3:=by have:=(p9.1 g).1;rwa[mM] at this
 have e:j=j / 3*3+j % 3:=by omega
 have hi:j / 3<n:=by omega
 obtain⟨m,h1,h2⟩:=h.2 (j / 3) hi;have i:j % 3<3:=N9 _ (by omega);rw[e,lS f hi (j % 3) i] at g;have l:((N b off Z):Addr).add j=(N b (off+j) Z):=addr_add _ _ _;rw[l];rcases(show j % 3=0∨j % 3=1∨j % 3=2 by omega) with q|q|q;all_goals rw[q] at g;simp[jO] at g;subst g
 {rw[show off+j=off+j / 3*3 by omega];exact m};{rw[show off+j=off+j / 3*3+1 by omega];exact h1};{rw[show off+j=off+j / 3*3+2 by omega];exact h2}
theorem aV{f:Nat}(h:w.ownsRow f e size (Y (T (N g 0 Z)) n cap) n i){u:ZB}(l:i[j]?=T u):w.cell? (N g j Z)=T u/\w.frozen? (N g j Z)=ZA:=by
 refine⟨?_,?_⟩
 ·have:=h.cells (g:=g) rfl j u l;have o:((N g 0 Z):Addr).add j=(N g j Z):=by rw[addr_add];simp
  rwa[o] at this
 ·rcases h.2 with ⟨b,_⟩|⟨g',cap',cur,b,_,m,_⟩
  {simp at b};{simp at b;obtain⟨rfl,rfl⟩:=b;simp[World.frozen?,m]}
theorem cO{f:List ZB}(h:w.ownsRow b e size (Y (T (N g 0 Z)) n cap) n f):b<=g/\g<A (B w):=h.lt g rfl
def TypeAt (w:M)(g:Nat)(e:ZH):Prop:=∃b,w.heap[g]?=T (J b e (0,0))
theorem iK{f:Nat}{l:List ZB}(h:w.ownsRow f e size (Y (T (N g 0 Z)) n cap) n l):TypeAt w g e:=by
 rcases h.2 with ⟨b,_⟩|⟨g',cap',i,b,_,j,_⟩
 {simp at b};{simp at b;obtain⟨rfl,rfl⟩:=b;exact⟨i,j⟩}
theorem dW{k:Nat}{i:ZH}(h:TypeAt w g e)(j:TypeAt w k i)(f:e≠i):g≠k:=by rintro rfl;obtain⟨c,l⟩:=h;obtain⟨d,b⟩:=j;rw[l] at b;simp at b;exact f b.2
theorem aO{R:Nat}{v:ZB}(h:w.ownsRow b e size v n i)(hR:R<b)(u:ZB):(w.setCell (N R j Z) u).ownsRow b e size v n i:=by
 refine h.kept (row:=T R) ⟨rfl,rfl,rfl,by simp[World.setCell],λk _ f=>qh _ _ _ _ (by simpa using f)⟩ ?_;rcases h.2 with ⟨rfl,_⟩|⟨g,cap,cur,rfl,hg,_⟩
 {exact .inl rfl};{right;simp[Value.ownBlock];omega}
theorem jy{l:Nat}(h:w.ownsRow l 151 3 (Y (T (N g 0 Z)) n cap) n (bX f n)):RowIns w g 0 n f/\∃F,Cells w g 0 (n*3) F:=by
 have b:=(cO h).2;refine⟨⟨b,λi hi=>⟨?_,?_,?_⟩⟩,λj=>(bX f n)[j]?.getD undef,b,λj o=>?_⟩;{have:=(aV h (j:=i*3) (u:=Q I (f i).op) (by have:=lS f hi 0 (by omega);simpa[jO] using this)).1;rwa[show 0+i*3=i*3 by omega]};{have:=(aV h (j:=i*3+1) (u:=U (f i).s) (by have:=lS f hi 1 (by omega);simpa[jO] using this)).1;rwa[show 0+i*3+1=i*3+1 by omega]};{have:=(aV h (j:=i*3+2) (u:=Q I (f i).n) (by have:=lS f hi 2 (by omega);simpa[jO] using this)).1;rwa[show 0+i*3+2=i*3+2 by omega]}
 ·rw[JC];have m:j<(bX f n).length:=by rw[mM];exact o
  have:=aV h (j:=j) (u:=(bX f n)[j]) (by rw[gq m]);show w.cell? _=T ((bX f n)[j]?.getD undef)/\_;rw[gq m];exact this
theorem gV (b off n cap:Nat)(f:Nat->Ins)(w:M)(hn:(n:Int)<=1048576)(o:RowIns w b off n f):Calls Pg 93 #[ZG #[Y (T (N b off Z)) n cap]] w λe u=>∃g c,e=ZD (ZG #[Y (T (N g 0 Z)) n c])/\u.ownsRow (A (B w)) 151 3 (Y (T (N g 0 Z)) n c) n (bX f n)/\Below (A (B w)) w u:=by
 have x:=ae (((BS w).alloc ly (J #[Y (T (N b off Z)) n cap] 43)).alloc (by simp) (J #[Y Z 0 0] 43));have r:((z w (J #[Y (T (N b off Z)) n cap] 43)).alloc (J #[Y Z 0 0] 43)).cell? (N (A (B w)+1) 0 Z)=T (Y Z 0 0):=by simp
 have E:((z w (J #[Y (T (N b off Z)) n cap] 43)).alloc (J #[Y Z 0 0] 43)).cell? (N (A (B w)) 0 Z)=T (Y (T (N b off Z)) n cap):=by simp
 have z0:((z w (J #[Y (T (N b off Z)) n cap] 43)).alloc (J #[Y Z 0 0] 43)).frozen? (N (A (B w)+1) 0 Z)=ZA:=by simp
 have hz:((z w (J #[Y (T (N b off Z)) n cap] 43)).alloc (J #[Y Z 0 0] 43)).heap.size=A (B w)+1+1:=by simp
 have q:=ae (o.aa x ly);clear o;obtain⟨y,hi,ZT,ZR,t⟩:=JT oQ;go_enter func93,ntmps93;have s:=ae ((cM (A (B w)+1+1) ((z w (J #[Y (T (N b off Z)) n cap] 43)).alloc (J #[Y Z 0 0] 43))).alloc (by simp) (J #[] 151));have ZS:=ae (q.aa s (by simp));go_wp2_with (at_builtin;refine IS _ rfl (.tmp 3) (.tmp 5) 41 rfl (A (B w)+1+1) 151 y (ZG #[Q I 0,U ⟨#[]⟩,Q I 0]) 3 32 QF hi ZT ZR t rfl (by decide) (Y (T (N (A (B w)+1+1) 0 Z)) 0 0) 0 [] (by simp[Act.eval]) (by have:=KJ (base:=A (B w)+1+1) (e:=151) (size:=3) ((z w (J #[Y (T (N b off Z)) n cap] 43)).alloc (J #[Y Z 0 0] 43)) #[] 0 (by simp) (by unfold maxLen;omega) rfl;simpa using this) (N b off Z) n cap (bX f n) (by simp[Act.eval]) (mM f n) (uQ ZS) (zI f n) (by unfold maxLen;omega) (by omega) (by simp<;>omega) ?_;intro C w2 h i l;simp only[JC,JW] at h;obtain⟨g,c,rfl⟩:∃g c,C=Y (T (N g 0 Z)) n c:=(by rcases h.2 with ⟨rfl,_⟩|⟨g,c,cur,rfl,_⟩;(have:=l.1 rfl;simp at this);exact⟨g,c,rfl⟩);have m:=ae (bg s i (by simp<;>omega) (λj e=>by simp[Value.ownBlock] at e;omega));have H:=ae (x.trans (m.mono (by omega)));have D:=(m.cell (p:=(N (A (B w)+1) 0 Z)) (by simp)).trans r;have lz:=(m.frozen (p:=(N (A (B w)+1) 0 Z)) (by simp)).trans z0;have G:=ae (aC (aO (R:=A (B w)+1) (j:=0) h (by omega) (Y (T (N g 0 Z)) n c)) (base':=A (B w)) (by omega));clear h i l r E z0);exact bp (v:=ZG #[Y (T (N g 0 Z)) n c]) (by simp[results,results93,go_sem,D]) rfl ⟨g,c,rfl,G,H.setCell (by simp) _⟩
def bi (x:Source):List ZB:=[U x.e,U x.y]
theorem qM (a:Option Addr)(cap:Nat)(w:M):Calls Pg 93 #[ZG #[Y a 0 cap]] w λe x=>∃g c,e=ZD (ZG #[Y (T (N g 0 Z)) 0 c])/\x.ownsRow (A (B w)) 151 3 (Y (T (N g 0 Z)) 0 c) 0 []/\Below (A (B w)) w x:=by
 have hz:((z w (J #[Y a 0 cap] 43)).alloc (J #[Y (T (N (A (B w)+1+1) 0 Z)) 0 0] 43)).heap.size=A (B w)+1+1:=by simp
 have q:=ae ((((BS w).alloc ly (J #[Y a 0 cap] 43)).alloc (by simp) (J #[Y (T (N (A (B w)+1+1) 0 Z)) 0 0] 43)).alloc (by rw[hz];omega) (J #[] 151));have r:Hid ((((z w (J #[Y a 0 cap] 43)).alloc (J #[Y (T (N (A (B w)+1+1) 0 Z)) 0 0] 43)).alloc (J #[] 151)).ownsRow (A (B w)) 151 3 (Y (T (N (A (B w)+1+1) 0 Z)) 0 0) 0 []):=by have h:=KJ (base:=A (B w)) (e:=151) (size:=3) ((z w (J #[Y a 0 cap] 43)).alloc (J #[Y (T (N (A (B w)+1+1) 0 Z)) 0 0] 43)) #[] 0 (by rw[hz];omega) (by unfold maxLen;omega) rfl;rw[hz] at h;exact h
 have m:((z w (J #[Y a 0 cap] 43)).alloc (J #[Y Z 0 0] 43)).cell? (N (A (B w)+1) 0 Z)=T (Y Z 0 0):=by simp
 have s:((z w (J #[Y a 0 cap] 43)).alloc (J #[Y Z 0 0] 43)).cell? (N (A (B w)) 0 Z)=T (Y a 0 cap):=by simp
 have z0:((z w (J #[Y a 0 cap] 43)).alloc (J #[Y Z 0 0] 43)).frozen? (N (A (B w)+1) 0 Z)=ZA:=by simp
 cases a with
 |none =>clear m s z0;go_enter func93,ntmps93;go_wp2;exact bp (v:=ZG #[Y (T (N (A (B w)+1+1) 0 Z)) 0 0]) (by simp[results,results93,go_sem]) rfl ⟨_,_,rfl,r,q⟩
 |some i =>
  have E:=ae (((BS w).alloc ly (J #[Y (T i) 0 cap] 43)).alloc (by simp) (J #[Y Z 0 0] 43));have hz2:((z w (J #[Y (T i) 0 cap] 43)).alloc (J #[Y Z 0 0] 43)).heap.size=A (B w)+1+1:=by simp
  obtain⟨y,hi,ZT,ZR,t⟩:=JT oQ;have C:=ae ((cM (A (B w)+1+1) ((z w (J #[Y (T i) 0 cap] 43)).alloc (J #[Y Z 0 0] 43))).alloc (by simp) (J #[] 151));clear q r hz;go_enter func93,ntmps93;go_wp2_with (at_builtin;refine IS _ rfl (.tmp 3) (.tmp 5) 41 rfl (A (B w)+1+1) 151 y (ZG #[Q I 0,U ⟨#[]⟩,Q I 0]) 3 32 QF hi ZT ZR t rfl (by decide) (Y (T (N (A (B w)+1+1) 0 Z)) 0 0) 0 [] (by simp[Act.eval]) (by have:=KJ (base:=A (B w)+1+1) (e:=151) (size:=3) ((z w (J #[Y (T i) 0 cap] 43)).alloc (J #[Y Z 0 0] 43)) #[] 0 (by simp) (by unfold maxLen;omega) rfl;simpa using this) i 0 cap [] (by simp[Act.eval]) rfl (λj u o=>by simp at o) (λu o=>by simp at o) (by unfold maxLen;omega) (by omega) (by simp<;>omega) ?_;intro ZS w2 b f l;simp only[JC,JW] at b;obtain⟨g,c,rfl⟩:∃g c,ZS=Y (T (N g 0 Z)) 0 c:=(by rcases b.2 with ⟨rfl,_⟩|⟨g,c,cur,rfl,_⟩;(have:=l.1 rfl;simp at this);exact⟨g,c,rfl⟩);have n:=ae (bg C f (by simp<;>omega) (λj e=>by simp[Value.ownBlock] at e;omega));have H:=ae (E.trans (n.mono (by omega)));have D:=(n.cell (p:=(N (A (B w)+1) 0 Z)) (by simp)).trans m;have lz:=(n.frozen (p:=(N (A (B w)+1) 0 Z)) (by simp)).trans z0;have G:=ae (aC (aO (R:=A (B w)+1) (j:=0) b (by omega) (Y (T (N g 0 Z)) 0 c)) (base':=A (B w)) (by omega));clear b f l m s z0);exact bp (v:=ZG #[Y (T (N g 0 Z)) 0 c]) (by simp[results,results93,go_sem,D]) rfl ⟨g,c,rfl,G,H.setCell (by simp) _⟩
theorem gX (a:Option Addr)(n cap:Nat)(f:Nat->Ins)(w:M)(hn:(n:Int)<=1048576)(h:SlIns w a n f):Calls Pg 93 #[ZG #[Y a n cap]] w λe i=>∃g c,e=ZD (ZG #[Y (T (N g 0 Z)) n c])/\i.ownsRow (A (B w)) 151 3 (Y (T (N g 0 Z)) n c) n (bX f n)/\Below (A (B w)) w i:=by
 rcases h with rfl|⟨b,off,rfl,h⟩
 {exact qM a cap w};{exact gV b off n cap f w hn h}
