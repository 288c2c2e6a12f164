import Derived.Test.YtkdimgejdocbbaaGreatDoorZM
import Derived.Test.YtkdimgejdocbbaaGreatDoorZV
set_option maxHeartbeats 1000000
open Go.Value renaming string->U,int->N,bool->QA
open Option renaming some->Q
open Go.IntKind renaming i64->I
open Go renaming World->E,Value->QB
open Bool renaming false->D,true->QC
open Go.Ending renaming returned->QD
namespace Go.Proofs.YtkdimgejdocbbaaGreatDoor.Vp
open RowKit
def Pow (w:E):Prop:=Lib.TabIs Tryz.prog w "internal/strconv.uint64pow10" .u64 Lib.pow10Tab
theorem gPow:Tryz.prog.globalNamed "internal/strconv.uint64pow10"=Q 2:=by kernel_rfl
theorem Pow.below {w b:E}{B:Nat}(h:Pow w)(hb:Below B w b)(d:w.heap.size<=B):Pow b:=Joins.tab_stays gPow h hb d
theorem Pow.low {w b:E}{B:Nat}(h:Pow w)(hb:Below B w b)(d:2<B):Pow b:=var?_below hb gPow d h
theorem qO {W b:E}{os:Array Obj}{B:Nat}(h:b.heap=W.heap++os)(h1:b.os=W.os)(h2:b.tape=W.tape)(d:b.output=W.output)(hB:B<=W.heap.size):Below B W b :=
 ⟨h1,h2,d,by rw[h,Array.size_append];omega,fun i hi=>by rw[h,Array.getElem?_append_left (by omega)]⟩
theorem zY (m:Nat)(w:E)(hm:(m:Int)<=9223372036854775807)(d:Pow w):Calls Tryz.prog 245 #[N I m] w fun e b=>e=QD (U ⟨(Lib.decDigits m).toArray⟩)/\Below w.heap.size w b:=by refine(Tryz.strconv_Itoa (m:Int) (by omega) (by omega) _ d).mono ?_;rintro e b ⟨rfl,j,os,f⟩;rw[Lib.itoa_nonneg];refine⟨rfl,?_⟩;rw[f];exact qO (os:=os) rfl rfl rfl rfl (by simp)
def dI (n:Nat):ByteArray:=⟨(Lib.decDigits n).toArray⟩
def dX (b:Bool):ByteArray:=if b then ⟨#[49]⟩ else ⟨#[48]⟩
theorem lP (x:Bool)(w:E):Calls Tryz.prog 172 #[QA x] w fun e b=>e=QD (U (dX x))/\b=w:=by
 cases x
 all_goals
  go_enter Tryz.func172,Tryz.ntmps172;go_wp2;go_ret;exact⟨rfl,rfl⟩
theorem oq (x:Bool)(w:E):Calls Tryz.prog 277 #[QA x] w fun e b=>e=QD (U (dX x))/\b=w:=by
 cases x
 all_goals
  go_enter Tryz.func277,Tryz.ntmps277;go_wp2;go_ret;exact⟨rfl,rfl⟩
theorem jl (b:Nat)(h:QB)(m:Mst)(p:Nat)(w:E)(hM:MAt w b h m)(hp:p<=2000)(k:Pow w):Calls Tryz.prog 222 #[.pointer (Q ⟨b,0,none⟩),N I p] w fun e n=>e=QD (.tuple #[])/\MAt n b h { m with t:=⟨QC,2,dI p,D,⟨#[]⟩,m.steps⟩ }/\Only b w n:=by have r:=ae hM;have q:=ae k;have o:=hM.lt;clear hM k;go_enter Tryz.func222,Tryz.ntmps222;go_wp2_with fail;refine(zY _ _ (by omega) q).mono ?_;rintro e w1 ⟨rfl,g⟩;have s:=ae g;have i:=ae (r.below g o);clear g;go_wp2_with fail;refine(jL b h m _ _ _ i).mono ?_;rintro e w2 ⟨rfl,f,d⟩;have l:=ae f;have j:=ae d;clear f d;go_wp2;refine lI rfl rfl ?_;exact⟨rfl,l,(Only.of_below s).trans j⟩
def ou (p:Nat)(steps:Int):Turn:=⟨QC,2,dI p,D,⟨#[]⟩,steps⟩
theorem zZ (b:Nat)(g:QB)(m:Mst)(k p:Nat)(w:E)(hM:MAt w b g m)(H:m.size=k+2)(hs:k+2<=50)(G:p<=2000)(A:Pow w)(x:2<b)(ha:(m.S k).size<=2000)(hb:(m.S (k+1)).size<=2000):Calls Tryz.prog 246 #[.pointer (Q ⟨b,0,none⟩),N I p] w fun e y=>e=QD (.tuple #[]) /\
   MAt y b g (if (m.S k).size+(m.S (k+1)).size<=2000 then { m with S:=upd m.S k (m.S k++m.S (k+1)),size:=k+1 } else { m with size:=k,t:=ou p m.steps })/\Only b w y:=by
 have QO:=ae hM;have QQ:=ae A;have C:=hM.lt;clear hM A;obtain⟨X,u⟩:∃ X,X=(if (m.S k).size+(m.S (k+1)).size<=2000 then { m with S:=upd m.S k (m.S k++m.S (k+1)),size:=k+1 } else { m with size:=k,t:=ou p m.steps }):=⟨_,rfl⟩
 rw[<-u];have l:=ae u;clear u;go_enter Tryz.func246,Tryz.ntmps246;go_wp2_with fail;refine(jY b g m (k+1) _ QO H (by omega)).mono ?_;rintro e w1 ⟨rfl,s,o⟩;have z:=ae s;have B:=ae o;clear s o;go_wp2_with fail;refine(jY b g _ k _ z rfl (by omega)).mono ?_;rintro e w2 ⟨rfl,q,n⟩;have r:=ae q;have h:=ae (B.trans n);clear q n;by_cases hlen:((m.S k).size:Int)+((m.S (k+1)).size:Int)<=2000
 ·rw[eT (by omega)] at l
  go_wp2_with fail;refine(oX b g _ _ _ r (by simp;omega)).mono ?_;rintro e QP ⟨rfl,d,f⟩;have j:=ae d;have i:=ae (h.trans f);clear d f;go_wp2;refine lI rfl rfl ?_;exact⟨rfl,by rw[l.out];exact j,i⟩
 ·rw[a8 (by omega)] at l
  go_wp2_with fail;refine(jl b g _ p _ r G (QQ.low (h.below lr (J9 C)) x)).mono ?_;rintro e QP ⟨rfl,d,f⟩;have j:=ae d;have i:=ae (h.trans f);clear d f;go_wp2;refine oW rfl rfl ?_;exact⟨rfl,by rw[l.out];exact j,i⟩
theorem Aa (b:Nat)(o:QB)(m:Mst)(ask:Bool)(k p:Nat)(w:E)(hM:MAt w b o m)(QQ:m.size=k+1)(hs:k+1<=50)(QN:p<=2000)(hlk:0<=m.looks)(hlk2:m.looks<=200)(z:Pow w)(A:2<b):Calls Tryz.prog 249 #[.pointer (Q ⟨b,0,none⟩),QA ask,N I p] w fun e C=>e=QD (.tuple #[]) /\
   MAt C b o (if au (m.S k)=D then { m with size:=k,t:=ou p m.steps } else if m.looks=200 then { m with size:=k,t:=⟨QC,3,⟨#[]⟩,D,⟨#[]⟩,m.steps⟩ } else { m with size:=k,looks:=m.looks+1,t:=⟨D,0,⟨#[]⟩,ask,m.S k,m.steps⟩ })/\Only b w C:=by
 have H:=ae hM;have G:=ae z;have QP:=hM.lt;clear hM z;obtain⟨X,x⟩:∃ X,X=(if au (m.S k)=D then { m with size:=k,t:=ou p m.steps } else if m.looks=200 then { m with size:=k,t:=⟨QC,3,⟨#[]⟩,D,⟨#[]⟩,m.steps⟩ } else { m with size:=k,looks:=m.looks+1,t:=⟨D,0,⟨#[]⟩,ask,m.S k,m.steps⟩ }):=⟨_,rfl⟩
 rw[<-x];have i:=ae x;clear x;go_enter Tryz.func249,Tryz.ntmps249;go_wp2_with fail;refine(jY b o m k _ H QQ (by omega)).mono ?_;rintro e w1 ⟨rfl,u,s⟩;have r:=ae u;have B:=ae s;clear u s;go_wp2_with fail;refine(eO _ _).mono ?_;rintro e w2 ⟨rfl,n⟩;have d:=ae (r.below n r.lt);have j:=ae (B.trans (Only.of_below n));clear n;cases hn:au (m.S k) with
 | false =>rw[eT hn] at i;go_wp2_with fail;refine(jl b o _ p _ d QN (G.low (j.below lr (J9 QP)) A)).mono ?_;rintro e QO ⟨rfl,g,h⟩;have q:=ae g;have l:=ae (j.trans h);clear g h;go_wp2;refine oW rfl rfl ?_;exact⟨rfl,by rw[i.out];exact q,l⟩
 | true =>
  rw[a8 (by simp[hn])] at i;obtain⟨c4,z4⟩:=d.fld 54 (N I m.looks) (by omega) (by simp[Mst.F]);by_cases f:m.looks=200
  ·rw[eT f] at i
   have y:(m.looks == 200)=QC:=by simp[f]
   go_wp2_with fail;refine(jL b o _ _ _ _ d).mono ?_;rintro e QO ⟨rfl,g,h⟩;have q:=ae g;have l:=ae (j.trans h);clear g h;go_wp2;refine oW rfl rfl ?_;exact⟨rfl,by rw[i.out];exact q,l⟩
  ·rw[a8 f] at i
   have y:(m.looks == 200)=D:=by simp[f]
   obtain⟨c3,z3⟩:=d.fld 53 (N I m.steps) (by omega) (by simp[Mst.F]);obtain⟨⟨c5,z5⟩,⟨c6,z6⟩,⟨c7,z7⟩,⟨c8,z8⟩,⟨c9,z9⟩,c10,z10⟩:=d.turn;go_wp2;refine lI rfl rfl ?_;exact⟨rfl,by rw[i.out];exact(d.setLooks _).setTurn ⟨D,0,⟨#[]⟩,ask,m.S k,m.steps⟩,Cj (bZ j _ _) ⟨D,0,⟨#[]⟩,ask,m.S k,m.steps⟩⟩
end Go.Proofs.YtkdimgejdocbbaaGreatDoor.Vp
