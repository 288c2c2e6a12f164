import Derived.Test.YtamacmnikdejeaaGreatDoorSD
import Derived.Lib.ItoaNum
import Derived.Lib.ItoaLen
import Derived.Lib.ItoaMem
import Derived.Lib.SmallJoins
set_option maxHeartbeats 2000000
open Go.Addr renaming mk->N
open Option renaming none->Z,some->T
open Go.Value renaming string->U,int->J
open Go.IntKind renaming i64->I
open Go renaming World->G
open Go.Ending renaming returned->QF
namespace Go.Proofs.YtamacmnikdejeaaGreatDoor.Vp
open RowKit
def Cells (w:G)(b off m:Nat)(F:Nat->Value):Prop:=b<w.heap.size/\∀ j,j<m->w.cell? (N b (off+j) Z)=T (F j)/\w.frozen? (N b (off+j) Z)=false
structure Touch (P:Nat->Prop)(w w':G):Prop where
 os:w'.os=w.os
 tape:w'.tape=w.tape
 output:w'.output=w.output
 size:w.heap.size<=w'.heap.size
 block:∀ k,k<w.heap.size->¬ P k->w'.heap[k]?=w.heap[k]?
theorem r9 (x:Int)(b:UInt8)(h:x=b.toNat)(w:G)(g:Nat)(f:w.cell? (N g 0 Z)=T (J .u8 x)):(convert 22 9 (.slice (T (N g 0 Z)) 1 1)).run Tryz.prog w=.ok (U ⟨#[b]⟩) w:=by
 refine MC _ 22 9 5 (N g 0 Z) 1 [b] Tryz.underlying22 Tryz.underlying5 Tryz.underlying9 ?_;intro j i;obtain rfl:j=0:=by simpa using i
 simp[Addr.add,f,h]
def dig (n:Nat):UInt8:=UInt8.ofNat (48+n)
theorem digit (n:Nat)(h:n<10):(48+(n:Int))=(dig n).toNat:=by unfold dig;rw[UInt8.toNat_ofNat'];omega
theorem pK {n:Nat}(h:¬ n<10):Lib.decDigits n=Lib.decDigits (n / 10)++[dig (n % 10)]:=by rw[Lib.decDigits,dif_neg h];rfl
theorem gK (n:Nat)(h:n<10)(w:G):Calls Tryz.prog 81 #[J I n] w fun e b=>e=QF (U ⟨#[dig n]⟩)/\Below w.heap.size w b:=by have hcv:=r9 (48+(n:Int)) _ (digit n h);go_enter Tryz.func81,Tryz.ntmps81;go_wp2;go_ret;exact⟨rfl,br.alloc ly _⟩
theorem qA (n:Nat):n<=9223372036854775807->∀ w:G,
  Calls Tryz.prog 81 #[J I n] w fun e g=>e=QF (U ⟨(Lib.decDigits n).toArray⟩)/\Below w.heap.size w g:=by
 induction n using Nat.strongRecOn with
 | ind n i =>
  intro hn w;by_cases h:n<10
  ·rw[Lib.decDigits_one h]
   exact gK n h w
  ·have f:∀ w:G,Calls Tryz.prog 81 #[J I ((n:Int) / 10)] w fun e g=>e=QF (U ⟨(Lib.decDigits (n / 10)).toArray⟩)/\Below w.heap.size w g:=fun w=>i (n / 10) (by omega) (by omega) w
   have j:=ae f;clear i f;have hcv:=r9 (48+(n:Int) % 10) (dig (n % 10)) (by have:=digit (n % 10) (by omega);omega);have q1:IntKind.i64.wrap ((n:Int) / 10)=(n:Int) / 10:=by rw[kP];omega
   have q2:IntKind.i64.wrap ((n:Int) % 10)=(n:Int) % 10:=by rw[kP];omega
   have q3:IntKind.i64.wrap (48+(n:Int) % 10)=48+(n:Int) % 10:=by rw[kP];omega
   have q5:(n:Int).tmod 10=(n:Int) % 10:=J6 (by omega);have hl:(Lib.decDigits (n / 10)).length<=21:=by rw[<-Lib.itoa_nonneg];exact Lib.itoa_length_le _ (by omega) (by omega)
   have q4:IntKind.u8.wrap (48+(n:Int) % 10)=48+(n:Int) % 10:=by rw[M0];omega
   go_enter Tryz.func81,Tryz.ntmps81;go_wp2_with fail;go_region_with (go_at_call 81;refine(j _).mono ?_;rintro e w1 ⟨rfl,b⟩;have hc1:=(ED b).1);all_goals
    go_wp2;go_ret;refine⟨fN ?_,?_⟩
    ·rw[pK h]
     apply NQ;simp
    ·first
      | exact(br.drew.trans b).alloc b.size _
      | exact((br.alloc ly _).drew).trans (b.mono (by simp))
def DO (k:Nat):UInt8:=([48,49,50,51,52,53,54,55,56,57,97,98,99,100,101,102]:List UInt8).getD k 0
def EU (c:UInt8):List UInt8:=[DO (c.toNat / 16),DO (c.toNat % 16)]
def DT (c:UInt8):Bool:=decide (32<=c.toNat/\c.toNat<=126/\c.toNat≠34/\c.toNat≠92)
def enc (c:UInt8):List UInt8:=if DT c=true then [c] else 92 :: EU c
theorem Cj (n:Nat)(h:n<=2000):(Lib.decDigits n).length<=21:=by rw[<-Lib.itoa_nonneg];exact Lib.itoa_length_le _ (by omega) (by omega)
theorem vY (x y z:Int)(a b c:UInt8)(l:x=a.toNat)(m:y=b.toNat)(hz:z=c.toNat)(w:G)(g:Nat)(i:w.cell? (N g 0 Z)=T (J .u8 x))(h1:w.cell? (N g 1 Z)=T (J .u8 y))(h2:w.cell? (N g 2 Z)=T (J .u8 z)):(convert 22 9 (.slice (T (N g 0 Z)) 3 3)).run Tryz.prog w=.ok (U ⟨#[a,b,c]⟩) w:=by
 refine MC _ 22 9 5 (N g 0 Z) 3 [a,b,c] Tryz.underlying22 Tryz.underlying5 Tryz.underlying9 ?_;intro j f;have f:j<3:=f;match j,f with
 | 0,_=>simp[Addr.add,i,l]
 | 1,_=>simp[Addr.add,h1,m]
 | 2,_=>simp[Addr.add,h2,hz]
 | k+3,h=>exact absurd h (by omega)
theorem jL (i:Nat)(h:i<1000)(w:G):Calls Tryz.prog 83 #[J I i] w fun e b=>∃ s:ByteArray,e=QF (U s)/\s.size<=4/\Below w.heap.size w b:=by
 have hcv:=vY (48+(i:Int) / 100) (48+(i:Int) / 10 % 10) (48+(i:Int) % 10) (dig (i / 100)) (dig (i / 10 % 10)) (dig (i % 10)) (by have:=digit (i / 100) (by omega);omega) (by have:=digit (i / 10 % 10) (by omega);omega) (by have:=digit (i % 10) (by omega);omega);have q1:IntKind.i64.wrap ((i:Int) / 100)=(i:Int) / 100:=by rw[kP];omega
 have q2:IntKind.i64.wrap ((i:Int) / 10)=(i:Int) / 10:=by rw[kP];omega
 have q3:IntKind.i64.wrap ((i:Int) / 10 % 10)=(i:Int) / 10 % 10:=by rw[kP];omega
 have q4:IntKind.i64.wrap ((i:Int) % 10)=(i:Int) % 10:=by rw[kP];omega
 have q5:(i:Int).tmod 10=(i:Int) % 10:=J6 (by omega);have q6:((i:Int) / 10).tmod 10=(i:Int) / 10 % 10:=J6 (by omega);have r1:IntKind.i64.wrap (48+(i:Int) / 100)=48+(i:Int) / 100:=by rw[kP];omega
 have r2:IntKind.i64.wrap (48+(i:Int) / 10 % 10)=48+(i:Int) / 10 % 10:=by rw[kP];omega
 have r3:IntKind.i64.wrap (48+(i:Int) % 10)=48+(i:Int) % 10:=by rw[kP];omega
 have s1:IntKind.u8.wrap (48+(i:Int) / 100)=48+(i:Int) / 100:=by rw[M0];omega
 have s2:IntKind.u8.wrap (48+(i:Int) / 10 % 10)=48+(i:Int) / 10 % 10:=by rw[M0];omega
 have s3:IntKind.u8.wrap (48+(i:Int) % 10)=48+(i:Int) % 10:=by rw[M0];omega
 go_enter Tryz.func83,Tryz.ntmps83;go_wp2;go_ret;refine⟨_,rfl,?_,br.alloc ly _⟩;simp only[JC];exact j6 4
end Go.Proofs.YtamacmnikdejeaaGreatDoor.Vp
