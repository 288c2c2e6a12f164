import Derived.Test.YtoddkejemcbkmaaGreatDoorSD
import Derived.Lib.ItoaNum
import Derived.Lib.ItoaLen
import Derived.Lib.ItoaMem
import Derived.Lib.SmallJoins
set_option maxRecDepth 100000
set_option maxHeartbeats 2000000
open Go renaming Addr.mk->Q,Value.slice->Z,Value.string->U,Value.int->J,IntKind.i64->I,World->M,Ending.returned->ZF,Proofs.Tryz.prog->Pg
open Option renaming none->Y,some->T
open Bool renaming false->ZA,true->ZG
namespace Go.Proofs.YtoddkejemcbkmaaGreatDoor.Vp
open Tryz RowKit
variable {c:UInt8}
def Cells (w:M)(b off m:Nat)(F:Nat->Value):Prop:=b<w.heap.size/\∀j,j<m->w.cell? (Q b (off+j) Y)=T (F j)/\w.frozen? (Q b (off+j) Y)=ZA
structure Touch (P:Nat->Prop)(w w':M):Prop where
 os:w'.os=w.os
 tape:w'.tape=w.tape
 output:w'.output=w.output
 size:w.heap.size<=w'.heap.size
 block:∀k,k<w.heap.size->¬ P k->w'.heap[k]?=w.heap[k]?
theorem oA (x:Int)(b:UInt8)(h:x=b.toNat)(w:M)(g:Nat)(f:w.cell? (Q g 0 Y)=T (J .u8 x)):(convert 22 9 (Z (T (Q g 0 Y)) 1 1)).run Pg w=.ok (U ⟨#[b]⟩) w:=by
 refine OU _ 22 9 5 (Q g 0 Y) 1 [b] MF ND IN ?_;intro j c;obtain rfl:j=0:=by simpa using c
 simp[Addr.add,f,h]
def dig (n:Nat):UInt8:=UInt8.ofNat (48+n)
theorem digit (n:Nat)(h:n<10):(48+(n:Int))=(dig n).toNat:=by unfold dig;rw[MJ];omega
theorem bU{n:Nat}(h:¬ n<10):Lib.decDigits n=Lib.decDigits (n / 10)++[dig (n % 10)]:=by rw[Lib.decDigits,dif_neg h];rfl
theorem iI (n:Nat)(h:n<10)(w:M):Calls Pg 29 #[J I n] w λe b=>e=ZF (U ⟨#[dig n]⟩)/\Below w.heap.size w b:=by have hcv:=oA (48+(n:Int)) _ (digit n h);go_enter func29,ntmps29;go_wp2;go_ret;exact⟨rfl,br.alloc ly _⟩
theorem gy (n:Nat):n<=9223372036854775807->∀w:M,
  Calls Pg 29 #[J I n] w λe f=>e=ZF (U ⟨(Lib.decDigits n).toArray⟩)/\Below w.heap.size w f:=by
 induction n using Nat.strongRecOn with
 |ind n g =>
  intro hn w;by_cases h:n<10;{rw[Lib.decDigits_one h];exact iI n h w}
  ·have c:∀w:M,Calls Pg 29 #[J I ((n:Int) / 10)] w λe f=>e=ZF (U ⟨(Lib.decDigits (n / 10)).toArray⟩)/\Below w.heap.size w f:=λw=>g (n / 10) (by omega) (by omega) w;have i:=ae c;clear g c;have hcv:=oA (48+(n:Int) % 10) (dig (n % 10)) (by have:=digit (n % 10) (by omega);omega);have q1:IntKind.i64.wrap ((n:Int) / 10)=(n:Int) / 10:=by rw[wA];omega
   have q2:IntKind.i64.wrap ((n:Int) % 10)=(n:Int) % 10:=by rw[wA];omega
   have q3:IntKind.i64.wrap (48+(n:Int) % 10)=48+(n:Int) % 10:=by rw[wA];omega
   have q5:(n:Int).tmod 10=(n:Int) % 10:=P7 (by omega);have hl:(Lib.decDigits (n / 10)).length<=21:=by rw[<-Lib.itoa_nonneg];exact Lib.itoa_length_le _ (by omega) (by omega)
   have q4:IntKind.u8.wrap (48+(n:Int) % 10)=48+(n:Int) % 10:=by rw[QS];omega
   go_enter func29,ntmps29;go_wp2_with fail;go_region_with (go_at_call 29;refine(i _).mono ?_;rintro e w1 ⟨rfl,b⟩;have hc1:=(IM b).1);all_goals
    go_wp2;go_ret;refine⟨gw ?_,?_⟩
    ·rw[bU h]
     apply MP;simp
    ·first
      |exact(br.drew.trans b).alloc b.size _
      |exact((br.alloc ly _).drew).trans (b.mono (by simp))
def eO (k:Nat):UInt8:=([48,49,50,51,52,53,54,55,56,57,97,98,99,100,101,102]:List UInt8).getD k 0
def dT (c:UInt8):List UInt8:=[eO (c.toNat / 16),eO (c.toNat % 16)]
def b9 (c:UInt8):Bool:=decide (32<=c.toNat/\c.toNat<=126/\c.toNat≠34/\c.toNat≠92)
def enc (c:UInt8):List UInt8:=if b9 c=ZG then [c] else 92::dT c
def qTo (l:List UInt8)(k:Nat):List UInt8:=34::(l.take k).flatMap enc
def aJ (l:List UInt8):List UInt8:=qTo l l.length++[34]
theorem tq (s:ByteArray)(k:Nat)(h:k<s.size):qTo s.data.toList (k+1)=qTo s.data.toList k++enc s[k]:=by unfold qTo;rw[OV (by simpa using h)];simp;rfl
theorem Hp (c:UInt8):(enc c).length<=3:=by unfold enc;split<;>simp[dT]
theorem FO (l:List UInt8):(l.flatMap enc).length<=3*l.length:=by
 induction l with
 |nil=>simp
 |cons c r ih=>have:=Hp c;simp only[J2,cM,eT];omega
theorem tr (l:List UInt8)(k:Nat):(qTo l k).length<=1+3*k:=by have h1:=FO (l.take k);have h2:=List.length_take_le k l;simp only[qTo,eT];omega
theorem Hq (l:List UInt8)(k:Nat):qTo l k≠[]:=by simp[qTo]
theorem ep (l:List UInt8):(aJ l).length<=2+3*l.length:=by have:=tr l l.length;simp only[aJ,cM,eT,nX];omega
def aR (op:Int)(s:List UInt8)(n:Int):List UInt8 :=
 if kind op=1 then word op++(32::aJ s) else if kind op=0 then word op else word op++(32::Lib.decDigits n.toNat)
theorem ny (n:Nat)(h:n<=2000):(Lib.decDigits n).length<=21:=by rw[<-Lib.itoa_nonneg];exact Lib.itoa_length_le _ (by omega) (by omega)
theorem iJ{op:Int}{s:ByteArray}{n:Int}(h:aG op s.size n=ZG):(op=1/\s.size<=2000/\n=0)∨((op=3∨op=4∨op=5∨op=10∨op=11)/\s=⟨#[]⟩/\∃m:Nat,n=m/\m<=2000) ∨
  ((op=2∨op=6∨op=7∨op=8∨op=9∨op=12∨op=13∨op=14∨op=15)/\s=⟨#[]⟩/\n=0):=by
 unfold aG at h;rw[z8] at h;obtain⟨h1,h2,h3,h4,b⟩:=h;by_cases f:op=1;{subst f;simp[aF,bN] at h3 b;exact .inl ⟨rfl,by omega,by omega⟩}
 ·have c:s.size=0:=by simp only[aF,nD f] at h3;omega
  by_cases g:op=3∨op=4∨op=5∨op=10∨op=11;{obtain⟨m,rfl⟩:=BC h4;refine .inr (.inl ⟨g,ja c,m,rfl,?_⟩);unfold bN at b;split at b;{omega};{split at b<;>omega}};{refine .inr (.inr ⟨by omega,ja c,?_⟩);unfold bN at b;rw[nD (by omega),nD (by omega)] at b;omega}
theorem ts (op:Int)(s:ByteArray)(n:Int)(h:aG op s.size n=ZG):(aR op s.data.toList n).length<=6010:=by
 rcases iJ h with ⟨rfl,hs,rfl⟩|⟨b,rfl,m,rfl,f⟩|⟨b,rfl,rfl⟩
 ·have c:=ep s.data.toList;have hl:s.data.toList.length=s.size:=by simp
  simp[aR,kind,word];omega
 {have c:=ny m f;rcases b with rfl|rfl|rfl|rfl|rfl<;>simp[aR,kind,word]<;>omega};{rcases b with rfl|rfl|rfl|rfl|rfl|rfl|rfl|rfl|rfl<;>simp[aR,kind,word]}
theorem xX (x y z:Int)(a b c:UInt8)(m:x=a.toNat)(i:y=b.toNat)(hz:z=c.toNat)(w:M)(g:Nat)(l:w.cell? (Q g 0 Y)=T (J .u8 x))(h1:w.cell? (Q g 1 Y)=T (J .u8 y))(h2:w.cell? (Q g 2 Y)=T (J .u8 z)):(convert 22 9 (Z (T (Q g 0 Y)) 3 3)).run Pg w=.ok (U ⟨#[a,b,c]⟩) w:=by
 refine OU _ 22 9 5 (Q g 0 Y) 3 [a,b,c] MF ND IN ?_;intro j f;have f:j<3:=f;match j,f with
 |0,_=>simp[Addr.add,l,m]
 |1,_=>simp[Addr.add,h1,i]
 |2,_=>simp[Addr.add,h2,hz]
 |k+3,h=>exact absurd h (by omega)
theorem Hr (i:Nat)(h:i<1000):(∀(w:M) (g:Nat),w.cell? (Q g 0 Y)=T (J .u8 (48+(i:Int) / 100))->w.cell? (Q g 1 Y)=T (J .u8 (48+(i:Int) / 10 % 10))->w.cell? (Q g 2 Y)=T (J .u8 (48+(i:Int) % 10))->(convert 22 9 (Z (T (Q g 0 Y)) 3 3)).run Pg w=.ok (U ⟨#[dig (i / 100),dig (i / 10 % 10),dig (i % 10)]⟩) w)/\IntKind.i64.wrap ((i:Int) / 100)=(i:Int) / 100/\IntKind.i64.wrap ((i:Int) / 10)=(i:Int) / 10/\IntKind.i64.wrap ((i:Int) / 10 % 10)=(i:Int) / 10 % 10/\IntKind.i64.wrap ((i:Int) % 10)=(i:Int) % 10/\(i:Int).tmod 10=(i:Int) % 10/\((i:Int) / 10).tmod 10=(i:Int) / 10 % 10/\IntKind.i64.wrap (48+(i:Int) / 100)=48+(i:Int) / 100/\IntKind.i64.wrap (48+(i:Int) / 10 % 10)=48+(i:Int) / 10 % 10/\IntKind.i64.wrap (48+(i:Int) % 10)=48+(i:Int) % 10/\IntKind.u8.wrap (48+(i:Int) / 100)=48+(i:Int) / 100/\IntKind.u8.wrap (48+(i:Int) / 10 % 10)=48+(i:Int) / 10 % 10/\IntKind.u8.wrap (48+(i:Int) % 10)=48+(i:Int) % 10 :=
 ⟨xX (48+(i:Int) / 100) (48+(i:Int) / 10 % 10) (48+(i:Int) % 10) (dig (i / 100)) (dig (i / 10 % 10)) (dig (i % 10)) (by have:=digit (i / 100) (by omega);omega) (by have:=digit (i / 10 % 10) (by omega);omega) (by have:=digit (i % 10) (by omega);omega),(by rw[wA];omega),(by rw[wA];omega),(by rw[wA];omega),(by rw[wA];omega),P7 (by omega),P7 (by omega),(by rw[wA];omega),(by rw[wA];omega),(by rw[wA];omega),(by rw[QS];omega),(by rw[QS];omega),(by rw[QS];omega)⟩
theorem nQ (i:Nat)(h:i<1000)(w:M):Calls Pg 113 #[J I i] w λe b=>∃s:ByteArray,e=ZF (U s)/\s.size<=4/\Below w.heap.size w b:=by obtain⟨hcv,q1,q2,q3,q4,q5,q6,r1,r2,r3,s1,s2,s3⟩:=Hr i h;go_enter func113,ntmps113;go_wp2;go_ret;refine⟨_,rfl,?_,br.alloc ly _⟩;simp only[MQ];exact n8 4
theorem Fz (k:Nat)(h:k<16)(w:M):(Instr.index 9 (U ⟨#[48,49,50,51,52,53,54,55,56,57,97,98,99,100,101,102]⟩) (J .u8 (k:Int))).run Pg w=.ok (J .u8 (eO k).toNat) w:=by rcases(show k=0∨k=1∨k=2∨k=3∨k=4∨k=5∨k=6∨k=7∨k=8∨k=9∨k=10∨k=11∨k=12∨k=13∨k=14∨k=15 by omega) with rfl|rfl|rfl|rfl|rfl|rfl|rfl|rfl|rfl|rfl|rfl|rfl|rfl|rfl|rfl|rfl;all_goals kernel_rfl
theorem zN (c:UInt8)(w:M):Calls Pg 98 #[J .u8 c.toNat] w λe b=>e=ZF (Z (T (Q w.heap.size 0 Y)) 2 2)/\b.ownsRow w.heap.size 5 1 (Z (T (Q w.heap.size 0 Y)) 2 2) 2 (Lib.byteCells (dT c))/\Below w.heap.size w b:=by
 have hc:=c.toNat_lt;have i1:∀w:M,(Instr.index 9 (U ⟨#[48,49,50,51,52,53,54,55,56,57,97,98,99,100,101,102]⟩) (J .u8 ((c.toNat:Int) / 16))).run Pg w=.ok (J .u8 (eO (c.toNat / 16)).toNat) w:=λw=>Fz (c.toNat / 16) (by omega) w;have i2:∀w:M,(Instr.index 9 (U ⟨#[48,49,50,51,52,53,54,55,56,57,97,98,99,100,101,102]⟩) (J .u8 ((c.toNat:Int) % 16))).run Pg w=.ok (J .u8 (eO (c.toNat % 16)).toNat) w:=λw=>Fz (c.toNat % 16) (by omega) w;go_enter func98,ntmps98;go_wp2;go_region;go_wp2;go_ret;refine⟨rfl,?_,?_⟩;{exact World.ownsRow_lit w #[J .u8 (eO (c.toNat / 16)).toNat,J .u8 (eO (c.toNat % 16)).toNat] 2 ly (by unfold maxLen;omega) rfl};{exact(br.alloc ly _).drew}
theorem vB (p1:32<=(c.toNat:Int))(p2:(c.toNat:Int)<=126)(b:((c.toNat:Int) != 34)=ZG)(f:((c.toNat:Int) != 92)=ZG):b9 c=ZG:=by simp only[VK,ne_eq] at b f;simp[b9];omega
theorem tu (h:¬ (32<=(c.toNat:Int)/\(c.toNat:Int)<=126/\((c.toNat:Int) != 34)=ZG/\((c.toNat:Int) != 92)=ZG)):b9 c=ZA:=by simp only[VK,ne_eq] at h;simp[b9];omega
theorem er (c:UInt8)(w:M):Calls Pg 93 #[J .u8 c.toNat] w λe j=>e=ZF (.bool (b9 c))/\j=w:=by
 by_cases f:32<=(c.toNat:Int)/\(c.toNat:Int)<=126/\((c.toNat:Int) != 34)=ZG/\((c.toNat:Int) != 92)=ZG;{obtain⟨b,g,h,i⟩:=f;rw[vB b g h i];go_enter func93,ntmps93;go_wp2;go_ret;exact⟨rfl,rfl⟩}
 ·rw[tu f];have hn:(c.toNat:Int)<32∨(32<=(c.toNat:Int)/\126<(c.toNat:Int))∨(32<=(c.toNat:Int)/\(c.toNat:Int)<=126/\((c.toNat:Int) != 34)=ZA)∨(32<=(c.toNat:Int)/\(c.toNat:Int)<=126/\((c.toNat:Int) != 34)=ZG/\((c.toNat:Int) != 92)=ZA):=by simp only[VK,ne_eq,bne_eq_false_iff_eq] at f ⊢;omega
  clear f;rcases hn with b|⟨b,g⟩|⟨b,g,h⟩|⟨b,g,h,i⟩
  all_goals
   go_enter func93,ntmps93;go_wp2;go_ret;exact⟨rfl,rfl⟩
