import Derived.Test.YtkdimgejdocbbaaGreatDoorZD
import Derived.Lib.ItoaNum
import Derived.Lib.ItoaLen
import Derived.Lib.ItoaMem
import Derived.Lib.SmallJoins
set_option maxHeartbeats 2000000
open Go.Addr renaming mk->J
open Option renaming none->Z,some->Q
open Go.Value renaming string->U,int->N
open Go.IntKind renaming i64->I
open Go renaming World->E
open Go.Ending renaming returned->QD
namespace Go.Proofs.YtkdimgejdocbbaaGreatDoor.Vp
open RowKit
def Cells (w:E)(b off m:Nat)(F:Nat->Value):Prop:=b<w.heap.size/\∀ j,j<m->w.cell? (J b (off+j) Z)=Q (F j)/\w.frozen? (J b (off+j) Z)=false
structure Touch (P:Nat->Prop)(w w':E):Prop where
 os:w'.os=w.os
 tape:w'.tape=w.tape
 output:w'.output=w.output
 size:w.heap.size<=w'.heap.size
 block:∀ k,k<w.heap.size->¬ P k->w'.heap[k]?=w.heap[k]?
theorem rB (x:Int)(b:UInt8)(h:x=b.toNat)(w:E)(g:Nat)(f:w.cell? (J g 0 Z)=Q (N .u8 x)):(convert 22 9 (.slice (Q (J g 0 Z)) 1 1)).run Tryz.prog w=.ok (U ⟨#[b]⟩) w:=by
 refine LU _ 22 9 5 (J g 0 Z) 1 [b] Tryz.underlying22 Tryz.underlying5 Tryz.underlying9 ?_;intro j d;obtain rfl:j=0:=by simpa using d
 simp[Addr.add,f,h]
def dig (n:Nat):UInt8:=UInt8.ofNat (48+n)
theorem digit (n:Nat)(h:n<10):(48+(n:Int))=(dig n).toNat:=by unfold dig;rw[UInt8.toNat_ofNat'];omega
theorem o5 {n:Nat}(h:¬ n<10):Lib.decDigits n=Lib.decDigits (n / 10)++[dig (n % 10)]:=by rw[Lib.decDigits,dif_neg h];rfl
theorem mI (n:Nat)(h:n<10)(w:E):Calls Tryz.prog 140 #[N I n] w fun e b=>e=QD (U ⟨#[dig n]⟩)/\Below w.heap.size w b:=by have hcv:=rB (48+(n:Int)) _ (digit n h);go_enter Tryz.func140,Tryz.ntmps140;go_wp2;go_ret;exact⟨rfl,br.alloc lr _⟩
theorem pH (n:Nat):n<=9223372036854775807->∀ w:E,
  Calls Tryz.prog 140 #[N I n] w fun e f=>e=QD (U ⟨(Lib.decDigits n).toArray⟩)/\Below w.heap.size w f:=by
 induction n using Nat.strongRecOn with
 | ind n g =>
  intro hn w;by_cases h:n<10
  ·rw[Lib.decDigits_one h]
   exact mI n h w
  ·have d:∀ w:E,Calls Tryz.prog 140 #[N I ((n:Int) / 10)] w fun e f=>e=QD (U ⟨(Lib.decDigits (n / 10)).toArray⟩)/\Below w.heap.size w f:=fun w=>g (n / 10) (by omega) (by omega) w
   have i:=ae d;clear g d;have hcv:=rB (48+(n:Int) % 10) (dig (n % 10)) (by have:=digit (n % 10) (by omega);omega);have q1:IntKind.i64.wrap ((n:Int) / 10)=(n:Int) / 10:=by rw[p9];omega
   have q2:IntKind.i64.wrap ((n:Int) % 10)=(n:Int) % 10:=by rw[p9];omega
   have q3:IntKind.i64.wrap (48+(n:Int) % 10)=48+(n:Int) % 10:=by rw[p9];omega
   have q5:(n:Int).tmod 10=(n:Int) % 10:=JL (by omega);have hl:(Lib.decDigits (n / 10)).length<=21:=by rw[<-Lib.itoa_nonneg];exact Lib.itoa_length_le _ (by omega) (by omega)
   have q4:IntKind.u8.wrap (48+(n:Int) % 10)=48+(n:Int) % 10:=by rw[MX];omega
   go_enter Tryz.func140,Tryz.ntmps140;go_wp2_with fail;go_region_with (go_at_call 140;refine(i _).mono ?_;rintro e w1 ⟨rfl,b⟩;have hc1:=(EE b).1);all_goals
    go_wp2;go_ret;refine⟨fO ?_,?_⟩
    ·rw[o5 h]
     apply NJ;simp
    ·first
      | exact(br.drew.trans b).alloc b.size _
      | exact((br.alloc lr _).drew).trans (b.mono (by simp))
def Ec (k:Nat):UInt8:=([48,49,50,51,52,53,54,55,56,57,97,98,99,100,101,102]:List UInt8).getD k 0
def EZ (c:UInt8):List UInt8:=[Ec (c.toNat / 16),Ec (c.toNat % 16)]
def Ed (c:UInt8):Bool:=decide (32<=c.toNat/\c.toNat<=126/\c.toNat≠34/\c.toNat≠92)
def enc (c:UInt8):List UInt8:=if Ed c=true then [c] else 92 :: EZ c
theorem Cp (n:Nat)(h:n<=2000):(Lib.decDigits n).length<=21:=by rw[<-Lib.itoa_nonneg];exact Lib.itoa_length_le _ (by omega) (by omega)
theorem vR (x y z:Int)(a b c:UInt8)(i:x=a.toNat)(f:y=b.toNat)(hz:z=c.toNat)(w:E)(g:Nat)(l:w.cell? (J g 0 Z)=Q (N .u8 x))(h1:w.cell? (J g 1 Z)=Q (N .u8 y))(h2:w.cell? (J g 2 Z)=Q (N .u8 z)):(convert 22 9 (.slice (Q (J g 0 Z)) 3 3)).run Tryz.prog w=.ok (U ⟨#[a,b,c]⟩) w:=by
 refine LU _ 22 9 5 (J g 0 Z) 3 [a,b,c] Tryz.underlying22 Tryz.underlying5 Tryz.underlying9 ?_;intro j d;have d:j<3:=d;match j,d with
 | 0,_=>simp[Addr.add,l,i]
 | 1,_=>simp[Addr.add,h1,f]
 | 2,_=>simp[Addr.add,h2,hz]
 | k+3,h=>exact absurd h (by omega)
theorem gQ (i:Nat)(h:i<1000)(w:E):Calls Tryz.prog 141 #[N I i] w fun e b=>∃ s:ByteArray,e=QD (U s)/\s.size<=4/\Below w.heap.size w b:=by
 have hcv:=vR (48+(i:Int) / 100) (48+(i:Int) / 10 % 10) (48+(i:Int) % 10) (dig (i / 100)) (dig (i / 10 % 10)) (dig (i % 10)) (by have:=digit (i / 100) (by omega);omega) (by have:=digit (i / 10 % 10) (by omega);omega) (by have:=digit (i % 10) (by omega);omega);have q1:IntKind.i64.wrap ((i:Int) / 100)=(i:Int) / 100:=by rw[p9];omega
 have q2:IntKind.i64.wrap ((i:Int) / 10)=(i:Int) / 10:=by rw[p9];omega
 have q3:IntKind.i64.wrap ((i:Int) / 10 % 10)=(i:Int) / 10 % 10:=by rw[p9];omega
 have q4:IntKind.i64.wrap ((i:Int) % 10)=(i:Int) % 10:=by rw[p9];omega
 have q5:(i:Int).tmod 10=(i:Int) % 10:=JL (by omega);have q6:((i:Int) / 10).tmod 10=(i:Int) / 10 % 10:=JL (by omega);have r1:IntKind.i64.wrap (48+(i:Int) / 100)=48+(i:Int) / 100:=by rw[p9];omega
 have r2:IntKind.i64.wrap (48+(i:Int) / 10 % 10)=48+(i:Int) / 10 % 10:=by rw[p9];omega
 have r3:IntKind.i64.wrap (48+(i:Int) % 10)=48+(i:Int) % 10:=by rw[p9];omega
 have s1:IntKind.u8.wrap (48+(i:Int) / 100)=48+(i:Int) / 100:=by rw[MX];omega
 have s2:IntKind.u8.wrap (48+(i:Int) / 10 % 10)=48+(i:Int) / 10 % 10:=by rw[MX];omega
 have s3:IntKind.u8.wrap (48+(i:Int) % 10)=48+(i:Int) % 10:=by rw[MX];omega
 go_enter Tryz.func141,Tryz.ntmps141;go_wp2;go_ret;refine⟨_,rfl,?_,br.alloc lr _⟩;simp only[JP];exact j6 4
end Go.Proofs.YtkdimgejdocbbaaGreatDoor.Vp
