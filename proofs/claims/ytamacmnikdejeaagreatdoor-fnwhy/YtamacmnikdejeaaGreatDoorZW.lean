import Derived.Test.YtamacmnikdejeaaGreatDoorZM
import Derived.Lib.SliceRun
import Derived.Lib.ItoaNum
import Derived.Lib.ItoaLen
import Derived.Lib.ItoaMem
import Derived.Lib.SmallJoins
set_option maxRecDepth 100000
set_option maxHeartbeats 2000000
open Go.Addr renaming mk->T
open Go.Value renaming slice->Y,string->U,int->I,agg->QV
open Option renaming none->Z,some->N
open Go.Obj renaming cells->Q
open Go.IntKind renaming i64->J
open Go renaming World->H,Value->QS
open Bool renaming false->QQ
open Go.Ending renaming returned->QU
namespace Go.Proofs.YtamacmnikdejeaaGreatDoor.Vp
open RowKit
def Cells (w:H)(b off m:Nat)(F:Nat->QS):Prop:=b<w.heap.size/\∀ j,j<m->w.cell? (T b (off+j) Z)=N (F j)/\w.frozen? (T b (off+j) Z)=QQ
structure Touch (P:Nat->Prop)(w w':H):Prop where
 os:w'.os=w.os
 tape:w'.tape=w.tape
 output:w'.output=w.output
 size:w.heap.size<=w'.heap.size
 block:∀ k,k<w.heap.size->¬ P k->w'.heap[k]?=w.heap[k]?
theorem sZ (x:Int)(b:UInt8)(h:x=b.toNat)(w:H)(g:Nat)(c:w.cell? (T g 0 Z)=N (I .u8 x)):(convert 22 9 (Y (N (T g 0 Z)) 1 1)).run Tryz.prog w=.ok (U ⟨#[b]⟩) w:=by
 refine OR _ 22 9 5 (T g 0 Z) 1 [b] Tryz.underlying22 Tryz.underlying5 Tryz.underlying9 ?_;intro j f;obtain rfl:j=0:=by simpa using f
 simp[Addr.add,c,h]
def dig (n:Nat):UInt8:=UInt8.ofNat (48+n)
theorem digit (n:Nat)(h:n<10):(48+(n:Int))=(dig n).toNat:=by unfold dig;rw[UInt8.toNat_ofNat'];omega
theorem qu {n:Nat}(h:¬ n<10):Lib.decDigits n=Lib.decDigits (n / 10)++[dig (n % 10)]:=by rw[Lib.decDigits,dif_neg h];rfl
theorem ku (n:Nat)(h:n<10)(w:H):Calls Tryz.prog 81 #[I J n] w fun e b=>e=QU (U ⟨#[dig n]⟩)/\Below w.heap.size w b:=by have hcv:=sZ (48+(n:Int)) _ (digit n h);go_enter Tryz.func81,Tryz.ntmps81;go_wp2;go_ret;exact⟨rfl,br.alloc ly _⟩
theorem qZ (n:Nat):n<=9223372036854775807->∀ w:H,
  Calls Tryz.prog 81 #[I J n] w fun e f=>e=QU (U ⟨(Lib.decDigits n).toArray⟩)/\Below w.heap.size w f:=by
 induction n using Nat.strongRecOn with
 | ind n g =>
  intro hn w;by_cases h:n<10
  ·rw[Lib.decDigits_one h]
   exact ku n h w
  ·have c:∀ w:H,Calls Tryz.prog 81 #[I J ((n:Int) / 10)] w fun e f=>e=QU (U ⟨(Lib.decDigits (n / 10)).toArray⟩)/\Below w.heap.size w f:=fun w=>g (n / 10) (by omega) (by omega) w
   have i:=ae c;clear g c;have hcv:=sZ (48+(n:Int) % 10) (dig (n % 10)) (by have:=digit (n % 10) (by omega);omega);have q1:IntKind.i64.wrap ((n:Int) / 10)=(n:Int) / 10:=by rw[j6];omega
   have q2:IntKind.i64.wrap ((n:Int) % 10)=(n:Int) % 10:=by rw[j6];omega
   have q3:IntKind.i64.wrap (48+(n:Int) % 10)=48+(n:Int) % 10:=by rw[j6];omega
   have q5:(n:Int).tmod 10=(n:Int) % 10:=LB (by omega);have hl:(Lib.decDigits (n / 10)).length<=21:=by rw[<-Lib.itoa_nonneg];exact Lib.itoa_length_le _ (by omega) (by omega)
   have q4:IntKind.u8.wrap (48+(n:Int) % 10)=48+(n:Int) % 10:=by rw[PX];omega
   go_enter Tryz.func81,Tryz.ntmps81;go_wp2_with fail;go_region_with (go_at_call 81;refine(i _).mono ?_;rintro e w1 ⟨rfl,b⟩;have hc1:=(Gl b).1);all_goals
    go_wp2;go_ret;refine⟨ny ?_,?_⟩
    ·rw[qu h]
     apply PO;simp
    ·first
      | exact(br.drew.trans b).alloc b.size _
      | exact((br.alloc ly _).drew).trans (b.mono (by simp))
def FF (k:Nat):UInt8:=([48,49,50,51,52,53,54,55,56,57,97,98,99,100,101,102]:List UInt8).getD k 0
def Gw (c:UInt8):List UInt8:=[FF (c.toNat / 16),FF (c.toNat % 16)]
def FG (c:UInt8):Bool:=decide (32<=c.toNat/\c.toNat<=126/\c.toNat≠34/\c.toNat≠92)
def enc (c:UInt8):List UInt8:=if FG c=true then [c] else 92 :: Gw c
theorem Em (n:Nat)(h:n<=2000):(Lib.decDigits n).length<=21:=by rw[<-Lib.itoa_nonneg];exact Lib.itoa_length_le _ (by omega) (by omega)
theorem xw (x y z:Int)(a b c:UInt8)(i:x=a.toNat)(l:y=b.toNat)(hz:z=c.toNat)(w:H)(g:Nat)(m:w.cell? (T g 0 Z)=N (I .u8 x))(h1:w.cell? (T g 1 Z)=N (I .u8 y))(h2:w.cell? (T g 2 Z)=N (I .u8 z)):(convert 22 9 (Y (N (T g 0 Z)) 3 3)).run Tryz.prog w=.ok (U ⟨#[a,b,c]⟩) w:=by
 refine OR _ 22 9 5 (T g 0 Z) 3 [a,b,c] Tryz.underlying22 Tryz.underlying5 Tryz.underlying9 ?_;intro j f;have f:j<3:=f;match j,f with
 | 0,_=>simp[Addr.add,m,i]
 | 1,_=>simp[Addr.add,h1,l]
 | 2,_=>simp[Addr.add,h2,hz]
 | k+3,h=>exact absurd h (by omega)
theorem iE (i:Nat)(h:i<1000)(w:H):Calls Tryz.prog 83 #[I J i] w fun e b=>∃ s:ByteArray,e=QU (U s)/\s.size<=4/\Below w.heap.size w b:=by
 have hcv:=xw (48+(i:Int) / 100) (48+(i:Int) / 10 % 10) (48+(i:Int) % 10) (dig (i / 100)) (dig (i / 10 % 10)) (dig (i % 10)) (by have:=digit (i / 100) (by omega);omega) (by have:=digit (i / 10 % 10) (by omega);omega) (by have:=digit (i % 10) (by omega);omega);have q1:IntKind.i64.wrap ((i:Int) / 100)=(i:Int) / 100:=by rw[j6];omega
 have q2:IntKind.i64.wrap ((i:Int) / 10)=(i:Int) / 10:=by rw[j6];omega
 have q3:IntKind.i64.wrap ((i:Int) / 10 % 10)=(i:Int) / 10 % 10:=by rw[j6];omega
 have q4:IntKind.i64.wrap ((i:Int) % 10)=(i:Int) % 10:=by rw[j6];omega
 have q5:(i:Int).tmod 10=(i:Int) % 10:=LB (by omega);have q6:((i:Int) / 10).tmod 10=(i:Int) / 10 % 10:=LB (by omega);have r1:IntKind.i64.wrap (48+(i:Int) / 100)=48+(i:Int) / 100:=by rw[j6];omega
 have r2:IntKind.i64.wrap (48+(i:Int) / 10 % 10)=48+(i:Int) / 10 % 10:=by rw[j6];omega
 have r3:IntKind.i64.wrap (48+(i:Int) % 10)=48+(i:Int) % 10:=by rw[j6];omega
 have s1:IntKind.u8.wrap (48+(i:Int) / 100)=48+(i:Int) / 100:=by rw[PX];omega
 have s2:IntKind.u8.wrap (48+(i:Int) / 10 % 10)=48+(i:Int) / 10 % 10:=by rw[PX];omega
 have s3:IntKind.u8.wrap (48+(i:Int) % 10)=48+(i:Int) % 10:=by rw[PX];omega
 go_enter Tryz.func83,Tryz.ntmps83;go_wp2;go_ret;refine⟨_,rfl,?_,br.alloc ly _⟩;simp only[KZ];exact j5 4
theorem addr_add (b off j:Nat):((T b off Z):Addr).add j=(T b (off+j) Z):=by unfold Addr.add;split<;>simp_all
theorem cW {c:Type}(g:c->List QS)(C:Nat)(b:∀ x,(g x).length=C):∀ (L:List c) (i j:Nat) (_:j<C) (x:c),L[i]?=N x->(L.flatMap g)[i*C+j]?=(g x)[j]?
 | [],i,j,_,x,h=>by simp at h
 | y :: L,0,j,hj,x,h=>by simp at h;subst h;rw[JU,OT,DN,IH (by rw[b];exact hj)]
 | y :: L,i+1,j,hj,x,h=>by simp at h;rw[JU,p8 (by rw[b,Nat.succ_mul];omega),b,show(i+1)*C+j - C=i*C+j by rw[Nat.succ_mul];omega];exact cW g C b L i j hj x h
theorem fh {b:Type}(g:b->List QS)(C:Nat)(c:∀ x,(g x).length=C):∀ L:List b,(L.flatMap g).length=L.length*C
 | []=>by simp
 | y :: L=>by rw[JU,a8,c,fh g C c L,z8,Nat.succ_mul];omega
def lC (x:Ins):List QS:=[I J x.op,U x.s,I J x.n]
def cF (f:Nat->Ins)(n:Nat):List QS:=((List.range n).map f).flatMap lC
theorem oE (f:Nat->Ins)(n:Nat):(cF f n).length=n*3:=by rw[cF,fh lC 3 (fun _=>rfl)];simp
theorem nC (f:Nat->Ins){n i:Nat}(hi:i<n)(j:Nat)(b:j<3):(cF f n)[i*3+j]?=(lC (f i))[j]? :=
 cW lC 3 (fun _=>rfl) _ i j b (f i) (by simp[hi])
theorem Bf (f:Nat->Ins)(n:Nat):∀ u∈cF f n,u.oneCell'=true:=by intro u b;simp only[cF,LN,lC] at b;obtain⟨x,_,c⟩:=b;simp at c;rcases c with rfl | rfl | rfl<;>simp[Value.oneCell']
theorem vW {w:H}{b off n:Nat}{f:Nat->Ins}(h:RowIns w b off n f):∀ j u,(cF f n)[j]?=N u->w.cell? (((T b off Z):Addr).add j)=N u:=by
 intro j u c;have hl:j<n*3:=by have:=(gM.1 c).1;rwa[oE] at this
 have e:j=j / 3*3+j % 3:=by omega
 have hi:j / 3<n:=by omega
 obtain⟨i,h1,h2⟩:=h.2 (j / 3) hi;have l:j % 3<3:=NO _ (by omega);rw[e,nC f hi (j % 3) l] at c;have g:((T b off Z):Addr).add j=(T b (off+j) Z):=addr_add _ _ _;rw[g];rcases(show j % 3=0∨j % 3=1∨j % 3=2 by omega) with q | q | q;all_goals rw[q] at c;simp[lC] at c;subst c
 ·rw[show off+j=off+j / 3*3 by omega];exact i
 ·rw[show off+j=off+j / 3*3+1 by omega];exact h1
 ·rw[show off+j=off+j / 3*3+2 by omega];exact h2
theorem bB {w:H}{c size n g cap:Nat}{e:TypeId}{f:List QS}(h:w.ownsRow c e size (Y (N (T g 0 Z)) n cap) n f){j:Nat}{u:QS}(l:f[j]?=N u):w.cell? (T g j Z)=N u/\w.frozen? (T g j Z)=QQ:=by
 refine⟨?_,?_⟩
 ·have:=h.cells (g:=g) rfl j u l
  have i:((T g 0 Z):Addr).add j=(T g j Z):=by rw[addr_add];simp
  rwa[i] at this
 ·rcases h.2 with ⟨b,_⟩ | ⟨g',cap',cur,b,_,m,_⟩
  ·simp at b
  ·simp at b
   obtain⟨rfl,rfl⟩:=b;simp[World.frozen?,m]
theorem dq {w:H}{b size n g cap:Nat}{e:TypeId}{c:List QS}(h:w.ownsRow b e size (Y (N (T g 0 Z)) n cap) n c):b<=g/\g<w.heap.size:=h.lt g rfl
def TypeAt (w:H)(g:Nat)(e:TypeId):Prop:=∃ b,w.heap[g]?=N (Q b e (0,0))
theorem jz {w:H}{c size n g cap:Nat}{e:TypeId}{j:List QS}(h:w.ownsRow c e size (Y (N (T g 0 Z)) n cap) n j):TypeAt w g e:=by
 rcases h.2 with ⟨b,_⟩ | ⟨g',cap',f,b,_,i,_⟩
 ·simp at b
 ·simp at b
  obtain⟨rfl,rfl⟩:=b;exact⟨f,i⟩
theorem eW {w:H}{g k:Nat}{e f:TypeId}(h:TypeAt w g e)(j:TypeAt w k f)(i:e≠f):g≠k:=by rintro rfl;obtain⟨c,l⟩:=h;obtain⟨d,b⟩:=j;rw[l] at b;simp at b;exact i b.2
theorem aS {w:H}{b size n R j:Nat}{e:TypeId}{v:QS}{f:List QS}(h:w.ownsRow b e size v n f)(hR:R<b)(u:QS):(w.setCell (T R j Z) u).ownsRow b e size v n f:=by
 refine h.kept (row:=N R) ⟨rfl,rfl,rfl,by simp[World.setCell],fun k _ c=>qh _ _ _ _ (by simpa using c)⟩ ?_;rcases h.2 with ⟨rfl,_⟩ | ⟨g,cap,cur,rfl,hg,_⟩
 ·exact .inl rfl
 ·right
  simp[Value.ownBlock];omega
theorem kM {w:H}{c n g cap:Nat}{f:Nat->Ins}(h:w.ownsRow c 146 3 (Y (N (T g 0 Z)) n cap) n (cF f n)):RowIns w g 0 n f/\∃ F,Cells w g 0 (n*3) F:=by
 have b:=(dq h).2;refine⟨⟨b,fun i hi=>⟨?_,?_,?_⟩⟩,fun j=>(cF f n)[j]?.getD undef,b,fun j m=>?_⟩
 ·have:=(bB h (j:=i*3) (u:=I J (f i).op) (by have:=nC f hi 0 (by omega);simpa[lC] using this)).1
  rwa[show 0+i*3=i*3 by omega]
 ·have:=(bB h (j:=i*3+1) (u:=U (f i).s) (by have:=nC f hi 1 (by omega);simpa[lC] using this)).1
  rwa[show 0+i*3+1=i*3+1 by omega]
 ·have:=(bB h (j:=i*3+2) (u:=I J (f i).n) (by have:=nC f hi 2 (by omega);simpa[lC] using this)).1
  rwa[show 0+i*3+2=i*3+2 by omega]
 ·rw[DN]
  have l:j<(cF f n).length:=by rw[oE];exact m
  have:=bB h (j:=j) (u:=(cF f n)[j]) (by rw[gq l]);show w.cell? _=N ((cF f n)[j]?.getD undef)/\_;rw[gq l];exact this
theorem iY (b off n cap:Nat)(f:Nat->Ins)(w:H)(hn:(n:Int)<=1048576)(q:RowIns w b off n f):Calls Tryz.prog 67 #[QV #[Y (N (T b off Z)) n cap]] w fun e u=>∃ g c,e=QU (QV #[Y (N (T g 0 Z)) n c])/\u.ownsRow w.heap.size 146 3 (Y (N (T g 0 Z)) n c) n (cF f n)/\Below w.heap.size w u:=by
 have x:=ae (((q9 w).alloc ly (Q #[Y (N (T b off Z)) n cap] 43)).alloc (by simp) (Q #[Y Z 0 0] 43));have s:((w.alloc (Q #[Y (N (T b off Z)) n cap] 43)).alloc (Q #[Y Z 0 0] 43)).cell? (T (w.heap.size+1) 0 Z)=N (Y Z 0 0):=by simp
 have G:((w.alloc (Q #[Y (N (T b off Z)) n cap] 43)).alloc (Q #[Y Z 0 0] 43)).cell? (T w.heap.size 0 Z)=N (Y (N (T b off Z)) n cap):=by simp
 have z0:((w.alloc (Q #[Y (N (T b off Z)) n cap] 43)).alloc (Q #[Y Z 0 0] 43)).frozen? (T (w.heap.size+1) 0 Z)=QQ:=by simp
 have hz:((w.alloc (Q #[Y (N (T b off Z)) n cap] 43)).alloc (Q #[Y Z 0 0] 43)).heap.size=w.heap.size+1+1:=by simp
 have o:=ae (q.below x ly);clear q;obtain⟨t,hi,y,z,r⟩:=JV qj;go_enter Tryz.func67,Tryz.ntmps67;have A:=ae ((eL (w.heap.size+1+1) ((w.alloc (Q #[Y (N (T b off Z)) n cap] 43)).alloc (Q #[Y Z 0 0] 43))).alloc (by simp) (Q #[] 146));have B:=ae (o.below A (by simp));go_wp2_with (at_builtin;refine wC _ rfl (.tmp 3) (.tmp 5) 41 rfl (w.heap.size+1+1) 146 t (QV #[I J 0,U ⟨#[]⟩,I J 0]) 3 32 Tryz.underlying41 hi y z r rfl (by decide) (Y (N (T (w.heap.size+1+1) 0 Z)) 0 0) 0 [] (by simp[Act.eval]) (by have:=J9 (base:=w.heap.size+1+1) (e:=146) (size:=3) ((w.alloc (Q #[Y (N (T b off Z)) n cap] 43)).alloc (Q #[Y Z 0 0] 43)) #[] 0 (by simp) (by unfold maxLen;omega) rfl;simpa using this) (T b off Z) n cap (cF f n) (by simp[Act.eval]) (oE f n) (vW B) (Bf f n) (by unfold maxLen;omega) (by omega) (by simp<;>omega) ?_;intro F w2 h i l;simp only[DN,JT] at h;obtain⟨g,c,rfl⟩:∃ g c,F=Y (N (T g 0 Z)) n c:=(by rcases h.2 with ⟨rfl,_⟩ | ⟨g,c,cur,rfl,_⟩;(have:=l.1 rfl;simp at this);exact⟨g,c,rfl⟩);have m:=ae (bg A i (by simp<;>omega) (fun j e=>by simp[Value.ownBlock] at e;omega));have C:=ae (x.trans (m.mono (by omega)));have D:=(m.cell (p:=(T (w.heap.size+1) 0 Z)) (by simp)).trans s;have lz:=(m.frozen (p:=(T (w.heap.size+1) 0 Z)) (by simp)).trans z0;have E:=ae (aE (aS (R:=w.heap.size+1) (j:=0) h (by omega) (Y (N (T g 0 Z)) n c)) (base':=w.heap.size) (by omega));clear h i l s G z0);exact bp (v:=QV #[Y (N (T g 0 Z)) n c]) (by simp[results,Tryz.results67,go_sem,D]) rfl ⟨g,c,rfl,E,C.setCell (by simp) _⟩
def bG (x:Source):List QS:=[U x.name,U x.text]
theorem se (a:Option Addr)(cap:Nat)(w:H):Calls Tryz.prog 67 #[QV #[Y a 0 cap]] w fun e x=>∃ g c,e=QU (QV #[Y (N (T g 0 Z)) 0 c])/\x.ownsRow w.heap.size 146 3 (Y (N (T g 0 Z)) 0 c) 0 []/\Below w.heap.size w x:=by
 have hz:((w.alloc (Q #[Y a 0 cap] 43)).alloc (Q #[Y (N (T (w.heap.size+1+1) 0 Z)) 0 0] 43)).heap.size=w.heap.size+1+1:=by simp
 have A:=ae ((((q9 w).alloc ly (Q #[Y a 0 cap] 43)).alloc (by simp) (Q #[Y (N (T (w.heap.size+1+1) 0 Z)) 0 0] 43)).alloc (by rw[hz];omega) (Q #[] 146));have s:Hid ((((w.alloc (Q #[Y a 0 cap] 43)).alloc (Q #[Y (N (T (w.heap.size+1+1) 0 Z)) 0 0] 43)).alloc (Q #[] 146)).ownsRow w.heap.size 146 3 (Y (N (T (w.heap.size+1+1) 0 Z)) 0 0) 0 []):=by have h:=J9 (base:=w.heap.size) (e:=146) (size:=3) ((w.alloc (Q #[Y a 0 cap] 43)).alloc (Q #[Y (N (T (w.heap.size+1+1) 0 Z)) 0 0] 43)) #[] 0 (by rw[hz];omega) (by unfold maxLen;omega) rfl;rw[hz] at h;exact h
 have n:((w.alloc (Q #[Y a 0 cap] 43)).alloc (Q #[Y Z 0 0] 43)).cell? (T (w.heap.size+1) 0 Z)=N (Y Z 0 0):=by simp
 have t:((w.alloc (Q #[Y a 0 cap] 43)).alloc (Q #[Y Z 0 0] 43)).cell? (T w.heap.size 0 Z)=N (Y a 0 cap):=by simp
 have z0:((w.alloc (Q #[Y a 0 cap] 43)).alloc (Q #[Y Z 0 0] 43)).frozen? (T (w.heap.size+1) 0 Z)=QQ:=by simp
 cases a with
 | none =>clear n t z0;go_enter Tryz.func67,Tryz.ntmps67;go_wp2;exact bp (v:=QV #[Y (N (T (w.heap.size+1+1) 0 Z)) 0 0]) (by simp[results,Tryz.results67,go_sem]) rfl ⟨_,_,rfl,s,A⟩
 | some l =>
  have G:=ae (((q9 w).alloc ly (Q #[Y (N l) 0 cap] 43)).alloc (by simp) (Q #[Y Z 0 0] 43));have hz2:((w.alloc (Q #[Y (N l) 0 cap] 43)).alloc (Q #[Y Z 0 0] 43)).heap.size=w.heap.size+1+1:=by simp
  obtain⟨r,hi,y,z,q⟩:=JV qj;have F:=ae ((eL (w.heap.size+1+1) ((w.alloc (Q #[Y (N l) 0 cap] 43)).alloc (Q #[Y Z 0 0] 43))).alloc (by simp) (Q #[] 146));clear A s hz;go_enter Tryz.func67,Tryz.ntmps67;go_wp2_with (at_builtin;refine wC _ rfl (.tmp 3) (.tmp 5) 41 rfl (w.heap.size+1+1) 146 r (QV #[I J 0,U ⟨#[]⟩,I J 0]) 3 32 Tryz.underlying41 hi y z q rfl (by decide) (Y (N (T (w.heap.size+1+1) 0 Z)) 0 0) 0 [] (by simp[Act.eval]) (by have:=J9 (base:=w.heap.size+1+1) (e:=146) (size:=3) ((w.alloc (Q #[Y (N l) 0 cap] 43)).alloc (Q #[Y Z 0 0] 43)) #[] 0 (by simp) (by unfold maxLen;omega) rfl;simpa using this) l 0 cap [] (by simp[Act.eval]) rfl (fun j u o=>by simp at o) (fun u o=>by simp at o) (by unfold maxLen;omega) (by omega) (by simp<;>omega) ?_;intro E w2 b f i;simp only[DN,JT] at b;obtain⟨g,c,rfl⟩:∃ g c,E=Y (N (T g 0 Z)) 0 c:=(by rcases b.2 with ⟨rfl,_⟩ | ⟨g,c,cur,rfl,_⟩;(have:=i.1 rfl;simp at this);exact⟨g,c,rfl⟩);have m:=ae (bg F f (by simp<;>omega) (fun j e=>by simp[Value.ownBlock] at e;omega));have B:=ae (G.trans (m.mono (by omega)));have C:=(m.cell (p:=(T (w.heap.size+1) 0 Z)) (by simp)).trans n;have lz:=(m.frozen (p:=(T (w.heap.size+1) 0 Z)) (by simp)).trans z0;have D:=ae (aE (aS (R:=w.heap.size+1) (j:=0) b (by omega) (Y (N (T g 0 Z)) 0 c)) (base':=w.heap.size) (by omega));clear b f i n t z0);exact bp (v:=QV #[Y (N (T g 0 Z)) 0 c]) (by simp[results,Tryz.results67,go_sem,C]) rfl ⟨g,c,rfl,D,B.setCell (by simp) _⟩
theorem iZ (a:Option Addr)(n cap:Nat)(f:Nat->Ins)(w:H)(hn:(n:Int)<=1048576)(h:SlIns w a n f):Calls Tryz.prog 67 #[QV #[Y a n cap]] w fun e i=>∃ g c,e=QU (QV #[Y (N (T g 0 Z)) n c])/\i.ownsRow w.heap.size 146 3 (Y (N (T g 0 Z)) n c) n (cF f n)/\Below w.heap.size w i:=by
 rcases h with rfl | ⟨b,off,rfl,h⟩
 ·exact se a cap w
 ·exact iY b off n cap f w hn h
end Go.Proofs.YtamacmnikdejeaaGreatDoor.Vp
