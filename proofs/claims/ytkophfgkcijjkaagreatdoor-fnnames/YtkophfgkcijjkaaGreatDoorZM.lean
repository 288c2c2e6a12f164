import Derived.Test.YtkophfgkcijjkaaGreatDoorZE
import Derived.Lib.ItoaNum
import Derived.Lib.ItoaLen
import Derived.Lib.ItoaMem
import Derived.Lib.SmallJoins
set_option maxHeartbeats 2000000
namespace Go.Proofs.YtkophfgkcijjkaaGreatDoor.Vp
open RowKit
theorem oR (x:Int)(b:UInt8)(h:x=b.toNat)(w:World)(g:Nat)(d:w.cell? ⟨g,0,none⟩=some (.int .u8 x)):(convert 22 9 (.slice (some ⟨g,0,none⟩) 1 1)).run Tryz.prog w=.ok (.string ⟨#[b]⟩) w:=by
 refine run_convert_bytes_back _ 22 9 5 ⟨g,0,none⟩ 1 [b] Tryz.underlying22 Tryz.underlying5 Tryz.underlying9 ?_;intro j c;obtain rfl:j=0:=by simpa using c
 simp[Addr.add,d,h]
def dig (n:Nat):UInt8:=UInt8.ofNat (48+n)
theorem digit (n:Nat)(h:n<10):(48+(n:Int))=(dig n).toNat:=by unfold dig;rw[UInt8.toNat_ofNat'];omega
theorem mG {n:Nat}(h:¬ n<10):Lib.decDigits n=Lib.decDigits (n / 10)++[dig (n % 10)]:=by rw[Lib.decDigits,dif_neg h];rfl
theorem fS (n:Nat)(h:n<10)(w:World):Calls Tryz.prog 126 #[.int .i64 n] w fun e b=>e=.returned (.string ⟨#[dig n]⟩)/\Below w.heap.size w b:=by have hcv:=oR (48+(n:Int)) _ (digit n h);go_enter Tryz.func126,Tryz.ntmps126;go_wp2;go_ret;exact⟨rfl,br.alloc ly _⟩
theorem nA (n:Nat):n<=9223372036854775807->∀ w:World,
  Calls Tryz.prog 126 #[.int .i64 n] w fun e d=>e=.returned (.string ⟨(Lib.decDigits n).toArray⟩)/\Below w.heap.size w d:=by
 induction n using Nat.strongRecOn with
 | ind n f =>
  intro hn w;by_cases h:n<10
  ·rw[Lib.decDigits_one h]
   exact fS n h w
  ·have c:∀ w:World,Calls Tryz.prog 126 #[.int .i64 ((n:Int) / 10)] w fun e d=>e=.returned (.string ⟨(Lib.decDigits (n / 10)).toArray⟩)/\Below w.heap.size w d:=fun w=>f (n / 10) (by omega) (by omega) w
   have g:=ae c;clear f c;have hcv:=oR (48+(n:Int) % 10) (dig (n % 10)) (by have:=digit (n % 10) (by omega);omega);have q1:IntKind.i64.wrap ((n:Int) / 10)=(n:Int) / 10:=by rw[IntKind.wrap_i64];omega
   have q2:IntKind.i64.wrap ((n:Int) % 10)=(n:Int) % 10:=by rw[IntKind.wrap_i64];omega
   have q3:IntKind.i64.wrap (48+(n:Int) % 10)=48+(n:Int) % 10:=by rw[IntKind.wrap_i64];omega
   have q5:(n:Int).tmod 10=(n:Int) % 10:=Int.tmod_eq_emod_of_nonneg (by omega);have hl:(Lib.decDigits (n / 10)).length<=21:=by rw[<-Lib.itoa_nonneg];exact Lib.itoa_length_le _ (by omega) (by omega)
   have q4:IntKind.u8.wrap (48+(n:Int) % 10)=48+(n:Int) % 10:=by rw[IntKind.wrap_u8];omega
   go_enter Tryz.func126,Tryz.ntmps126;go_wp2_with fail;go_region_with (go_at_call 126;refine(g.out _).mono ?_;rintro e w1 ⟨rfl,b⟩;have hc1:=(ze b).1);all_goals
    go_wp2;go_ret;refine⟨j6 ?_,?_⟩
    ·rw[mG h]
     apply ByteArray.ext;simp
    ·first
      | exact(br.drew.trans b).alloc b.size _
      | exact((br.alloc ly _).drew).trans (b.mono (by simp))
def yE (k:Nat):UInt8:=([48,49,50,51,52,53,54,55,56,57,97,98,99,100,101,102]:List UInt8).getD k 0
def zy (c:UInt8):List UInt8:=[yE (c.toNat / 16),yE (c.toNat % 16)]
def yF (c:UInt8):Bool:=decide (32<=c.toNat/\c.toNat<=126/\c.toNat≠34/\c.toNat≠92)
def enc (c:UInt8):List UInt8:=if yF c=true then [c] else 92 :: zy c
theorem xE (n:Nat)(h:n<=2000):(Lib.decDigits n).length<=21:=by rw[<-Lib.itoa_nonneg];exact Lib.itoa_length_le _ (by omega) (by omega)
theorem sH (x y z:Int)(a b c:UInt8)(f:x=a.toNat)(i:y=b.toNat)(hz:z=c.toNat)(w:World)(g:Nat)(l:w.cell? ⟨g,0,none⟩=some (.int .u8 x))(m:w.cell? ⟨g,1,none⟩=some (.int .u8 y))(n:w.cell? ⟨g,2,none⟩=some (.int .u8 z)):(convert 22 9 (.slice (some ⟨g,0,none⟩) 3 3)).run Tryz.prog w=.ok (.string ⟨#[a,b,c]⟩) w:=by
 refine run_convert_bytes_back _ 22 9 5 ⟨g,0,none⟩ 3 [a,b,c] Tryz.underlying22 Tryz.underlying5 Tryz.underlying9 ?_;intro j d;have d:j<3:=d;match j,d with
 | 0,_=>simp[Addr.add,l,f]
 | 1,_=>simp[Addr.add,m,i]
 | 2,_=>simp[Addr.add,n,hz]
 | k+3,h=>exact absurd h (by omega)
theorem iB (i:Nat)(h:i<1000)(w:World):Calls Tryz.prog 127 #[.int .i64 i] w fun e b=>∃ s:ByteArray,e=.returned (.string s)/\s.size<=4/\Below w.heap.size w b:=by
 have hcv:=sH (48+(i:Int) / 100) (48+(i:Int) / 10 % 10) (48+(i:Int) % 10) (dig (i / 100)) (dig (i / 10 % 10)) (dig (i % 10)) (by have:=digit (i / 100) (by omega);omega) (by have:=digit (i / 10 % 10) (by omega);omega) (by have:=digit (i % 10) (by omega);omega);have q1:IntKind.i64.wrap ((i:Int) / 100)=(i:Int) / 100:=by rw[IntKind.wrap_i64];omega
 have q2:IntKind.i64.wrap ((i:Int) / 10)=(i:Int) / 10:=by rw[IntKind.wrap_i64];omega
 have q3:IntKind.i64.wrap ((i:Int) / 10 % 10)=(i:Int) / 10 % 10:=by rw[IntKind.wrap_i64];omega
 have q4:IntKind.i64.wrap ((i:Int) % 10)=(i:Int) % 10:=by rw[IntKind.wrap_i64];omega
 have q5:(i:Int).tmod 10=(i:Int) % 10:=Int.tmod_eq_emod_of_nonneg (by omega);have q6:((i:Int) / 10).tmod 10=(i:Int) / 10 % 10:=Int.tmod_eq_emod_of_nonneg (by omega);have r1:IntKind.i64.wrap (48+(i:Int) / 100)=48+(i:Int) / 100:=by rw[IntKind.wrap_i64];omega
 have r2:IntKind.i64.wrap (48+(i:Int) / 10 % 10)=48+(i:Int) / 10 % 10:=by rw[IntKind.wrap_i64];omega
 have r3:IntKind.i64.wrap (48+(i:Int) % 10)=48+(i:Int) % 10:=by rw[IntKind.wrap_i64];omega
 have s1:IntKind.u8.wrap (48+(i:Int) / 100)=48+(i:Int) / 100:=by rw[IntKind.wrap_u8];omega
 have s2:IntKind.u8.wrap (48+(i:Int) / 10 % 10)=48+(i:Int) / 10 % 10:=by rw[IntKind.wrap_u8];omega
 have s3:IntKind.u8.wrap (48+(i:Int) % 10)=48+(i:Int) % 10:=by rw[IntKind.wrap_u8];omega
 go_enter Tryz.func127,Tryz.ntmps127;go_wp2;go_ret;refine⟨_,rfl,?_,br.alloc ly _⟩;simp only[ByteArray.size_append];exact Nat.le_refl 4
end Go.Proofs.YtkophfgkcijjkaaGreatDoor.Vp
