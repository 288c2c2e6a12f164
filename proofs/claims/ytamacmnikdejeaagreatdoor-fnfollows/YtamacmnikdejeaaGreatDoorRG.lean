import Derived.Test.YtamacmnikdejeaaGreatDoorSM
import Derived.Test.YtamacmnikdejeaaGreatDoorSV
set_option maxHeartbeats 1000000
open Go.Value renaming string->U,int->J,bool->QC
open Option renaming some->T
open Go.IntKind renaming i64->I
open Go renaming World->G,Value->QE
open Bool renaming false->QB,true->QD
open Go.Ending renaming returned->QF
namespace Go.Proofs.YtamacmnikdejeaaGreatDoor.Vp
open RowKit
def Pow (w:G):Prop:=Lib.TabIs Tryz.prog w "internal/strconv.uint64pow10" .u64 Lib.pow10Tab
theorem gPow:Tryz.prog.globalNamed "internal/strconv.uint64pow10"=T 2:=by kernel_rfl
theorem Pow.below {w b:G}{B:Nat}(h:Pow w)(hb:Below B w b)(f:w.heap.size<=B):Pow b:=Joins.tab_stays gPow h hb f
theorem Pow.low {w b:G}{B:Nat}(h:Pow w)(hb:Below B w b)(f:2<B):Pow b:=var?_below hb gPow f h
theorem rH {W b:G}{os:Array Obj}{B:Nat}(h:b.heap=W.heap++os)(h1:b.os=W.os)(h2:b.tape=W.tape)(f:b.output=W.output)(hB:B<=W.heap.size):Below B W b :=
 ⟨h1,h2,f,by rw[h,Array.size_append];omega,fun i hi=>by rw[h,Array.getElem?_append_left (by omega)]⟩
theorem zR (m:Nat)(w:G)(hm:(m:Int)<=9223372036854775807)(g:Pow w):Calls Tryz.prog 219 #[J I m] w fun e b=>e=QF (U ⟨(Lib.decDigits m).toArray⟩)/\Below w.heap.size w b:=by refine(Tryz.strconv_Itoa (m:Int) (by omega) (by omega) _ g).mono ?_;rintro e b ⟨rfl,j,os,f⟩;rw[Lib.itoa_nonneg];refine⟨rfl,?_⟩;rw[f];exact rH (os:=os) rfl rfl rfl rfl (by simp)
def dK (n:Nat):ByteArray:=⟨(Lib.decDigits n).toArray⟩
def eh (b:Bool):ByteArray:=if b then ⟨#[49]⟩ else ⟨#[48]⟩
theorem lU (x:Bool)(w:G):Calls Tryz.prog 191 #[QC x] w fun e b=>e=QF (U (eh x))/\b=w:=by
 cases x
 all_goals
  go_enter Tryz.func191,Tryz.ntmps191;go_wp2;go_ret;exact⟨rfl,rfl⟩
theorem oV (x:Bool)(w:G):Calls Tryz.prog 194 #[QC x] w fun e b=>e=QF (U (eh x))/\b=w:=by
 cases x
 all_goals
  go_enter Tryz.func194,Tryz.ntmps194;go_wp2;go_ret;exact⟨rfl,rfl⟩
theorem jx (b:Nat)(i:QE)(m:Mst)(p:Nat)(w:G)(hM:MAt w b i m)(hp:p<=2000)(j:Pow w):Calls Tryz.prog 210 #[.pointer (T ⟨b,0,none⟩),J I p] w fun e q=>e=QF (.tuple #[])/\MAt q b i { m with t:=⟨QD,2,dK p,QB,⟨#[]⟩,m.steps⟩ }/\Only b w q:=by have x:=ae hM;have u:=ae j;have r:=hM.lt;clear hM j;go_enter Tryz.func210,Tryz.ntmps210;go_wp2_with fail;refine(zR _ _ (by omega) u).mono ?_;rintro e w1 ⟨rfl,h⟩;have s:=ae h;have n:=ae (x.below h r);clear h;go_wp2_with fail;refine(jV b i m _ _ _ n).mono ?_;rintro e w2 ⟨rfl,f,g⟩;have o:=ae f;have l:=ae g;clear f g;go_wp2;refine lO rfl rfl ?_;exact⟨rfl,o,(Only.of_below s).trans l⟩
def oW (p:Nat)(steps:Int):Turn:=⟨QD,2,dK p,QB,⟨#[]⟩,steps⟩
theorem zS (b:Nat)(h:QE)(m:Mst)(k p:Nat)(w:G)(hM:MAt w b h m)(C:m.size=k+2)(hs:k+2<=50)(H:p<=2000)(y:Pow w)(x:2<b)(ha:(m.S k).size<=2000)(hb:(m.S (k+1)).size<=2000):Calls Tryz.prog 220 #[.pointer (T ⟨b,0,none⟩),J I p] w fun e B=>e=QF (.tuple #[]) /\
   MAt B b h (if (m.S k).size+(m.S (k+1)).size<=2000 then { m with S:=upd m.S k (m.S k++m.S (k+1)),size:=k+1 } else { m with size:=k,t:=oW p m.steps })/\Only b w B:=by
 have E:=ae hM;have D:=ae y;have QR:=hM.lt;clear hM y;obtain⟨X,hX⟩:∃ X,X=(if (m.S k).size+(m.S (k+1)).size<=2000 then { m with S:=upd m.S k (m.S k++m.S (k+1)),size:=k+1 } else { m with size:=k,t:=oW p m.steps }):=⟨_,rfl⟩
 rw[<-hX];have n:=ae hX;clear hX;go_enter Tryz.func220,Tryz.ntmps220;go_wp2_with fail;refine(kj b h m (k+1) _ E C (by omega)).mono ?_;rintro e w1 ⟨rfl,o,s⟩;have A:=ae o;have z:=ae s;clear o s;go_wp2_with fail;refine(kj b h _ k _ A rfl (by omega)).mono ?_;rintro e w2 ⟨rfl,r,u⟩;have q:=ae r;have l:=ae (z.trans u);clear r u;by_cases hlen:((m.S k).size:Int)+((m.S (k+1)).size:Int)<=2000
 ·rw[gM (by omega)] at n
  go_wp2_with fail;refine(pG b h _ _ _ q (by simp;omega)).mono ?_;rintro e QP ⟨rfl,g,f⟩;have i:=ae g;have j:=ae (l.trans f);clear g f;go_wp2;refine lO rfl rfl ?_;exact⟨rfl,by rw[n.out];exact i,j⟩
 ·rw[cM (by omega)] at n
  go_wp2_with fail;refine(jx b h _ p _ q H (D.low (l.below ly (LJ QR)) x)).mono ?_;rintro e QP ⟨rfl,g,f⟩;have i:=ae g;have j:=ae (l.trans f);clear g f;go_wp2;refine pF rfl rfl ?_;exact⟨rfl,by rw[n.out];exact i,j⟩
theorem zT (b:Nat)(r:QE)(m:Mst)(ask:Bool)(k p:Nat)(w:G)(hM:MAt w b r m)(QR:m.size=k+1)(hs:k+1<=50)(E:p<=2000)(hlk:0<=m.looks)(hlk2:m.looks<=200)(z:Pow w)(y:2<b):Calls Tryz.prog 223 #[.pointer (T ⟨b,0,none⟩),QC ask,J I p] w fun e C=>e=QF (.tuple #[]) /\
   MAt C b r (if au (m.S k)=QB then { m with size:=k,t:=oW p m.steps } else if m.looks=200 then { m with size:=k,t:=⟨QD,3,⟨#[]⟩,QB,⟨#[]⟩,m.steps⟩ } else { m with size:=k,looks:=m.looks+1,t:=⟨QB,0,⟨#[]⟩,ask,m.S k,m.steps⟩ })/\Only b w C:=by
 have QP:=ae hM;have H:=ae z;have D:=hM.lt;clear hM z;obtain⟨X,hX⟩:∃ X,X=(if au (m.S k)=QB then { m with size:=k,t:=oW p m.steps } else if m.looks=200 then { m with size:=k,t:=⟨QD,3,⟨#[]⟩,QB,⟨#[]⟩,m.steps⟩ } else { m with size:=k,looks:=m.looks+1,t:=⟨QB,0,⟨#[]⟩,ask,m.S k,m.steps⟩ }):=⟨_,rfl⟩
 rw[<-hX];have j:=ae hX;clear hX;go_enter Tryz.func223,Tryz.ntmps223;go_wp2_with fail;refine(kj b r m k _ QP QR (by omega)).mono ?_;rintro e w1 ⟨rfl,u,s⟩;have x:=ae u;have A:=ae s;clear u s;go_wp2_with fail;refine(fu _ _).mono ?_;rintro e w2 ⟨rfl,q⟩;have f:=ae (x.below q x.lt);have l:=ae (A.trans (Only.of_below q));clear q;cases hn:au (m.S k) with
 | false =>rw[gM hn] at j;go_wp2_with fail;refine(jx b r _ p _ f E (H.low (l.below ly (LJ D)) y)).mono ?_;rintro e QO ⟨rfl,h,i⟩;have n:=ae h;have o:=ae (l.trans i);clear h i;go_wp2;refine pF rfl rfl ?_;exact⟨rfl,by rw[j.out];exact n,o⟩
 | true =>
  rw[cM (by simp[hn])] at j;obtain⟨c4,z4⟩:=f.fld 54 (J I m.looks) (by omega) (by simp[Mst.F]);by_cases g:m.looks=200
  ·rw[gM g] at j
   have B:(m.looks == 200)=QD:=by simp[g]
   go_wp2_with fail;refine(jV b r _ _ _ _ f).mono ?_;rintro e QO ⟨rfl,h,i⟩;have n:=ae h;have o:=ae (l.trans i);clear h i;go_wp2;refine pF rfl rfl ?_;exact⟨rfl,by rw[j.out];exact n,o⟩
  ·rw[cM g] at j
   have B:(m.looks == 200)=QB:=by simp[g]
   obtain⟨c3,z3⟩:=f.fld 53 (J I m.steps) (by omega) (by simp[Mst.F]);obtain⟨⟨c5,z5⟩,⟨c6,z6⟩,⟨c7,z7⟩,⟨c8,z8⟩,⟨c9,z9⟩,c10,z10⟩:=f.turn;go_wp2;refine lO rfl rfl ?_;exact⟨rfl,by rw[j.out];exact(f.setLooks _).setTurn ⟨QB,0,⟨#[]⟩,ask,m.S k,m.steps⟩,BV (ci l _ _) ⟨QB,0,⟨#[]⟩,ask,m.S k,m.steps⟩⟩
end Go.Proofs.YtamacmnikdejeaaGreatDoor.Vp
