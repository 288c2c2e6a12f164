import Derived.Test.YtkdimgejdocbbaaGreatDoorZO
import Derived.Lib.ItoaMem
set_option maxRecDepth 100000
set_option maxHeartbeats 4000000
open Go.Addr renaming mk->J
open Option renaming none->Y,some->N
open Go.Value renaming string->U,int->Q
open Go.Obj renaming cells->T
open Go renaming World->E,Value->QB
namespace Go.Proofs.YtkdimgejdocbbaaGreatDoor.Vp
open RowKit
def o6 (b:List UInt8):List QB:=b.map fun c=>Q .u8 (c.toNat:Int)
theorem Ee:(Tryz.prog.info? 5).map (fun i=>(i.zero,i.size,i.bytes))=N (N (Q .u8 0),1,1):=by kernel_rfl
theorem gy {w j:E}{b R:Nat}{e:TypeId}{size n:Nat}{v:QB}{i:List QB}(h:w.ownsRow b e size v n i)(d:Only R w j)(hR:R<b):j.ownsRow b e size v n i:=by
 refine h.kept (row:=N R) ⟨d.os,d.tape,d.output,d.size,fun k l f=>d.block k l (by simpa using f)⟩ ?_;rcases h.2 with ⟨rfl,_⟩ | ⟨g,cap,cur,rfl,hg,_⟩
 ·exact .inl rfl
 ·right
  simp[Value.ownBlock];omega
theorem wv {z:Int}(b:0<=z)(h1:z<159):∃ c:UInt8,97+z=(c.toNat:Int):=by obtain⟨k,rfl⟩:=x4 b;refine⟨UInt8.ofNat (97+k),?_⟩;rw[UInt8.toNat_ofNat'];omega
theorem xR (b:List UInt8)(c:UInt8):o6 (b++[c])=o6 b++[Q .u8 (c.toNat:Int)]:=by simp[o6]
theorem zH (b:List UInt8)(w:E)(g d k:Nat)(i:b.length=k)(h:∀ j (f:j<b.length),w.cell? (((J g 0 Y):Addr).add j)=N (Q .u8 (b[j].toNat:Int))):(convert 22 9 (.slice (N (J g 0 Y)) k d)).run Tryz.prog w=.ok (U ⟨b.toArray⟩) w:=by subst i;refine LY _ 22 9 5 (J g 0 Y) d b Tryz.underlying22 Tryz.underlying5 Tryz.underlying9 ?_;intro j f;exact h j f
theorem fZ (R p:Nat)(w:E)(hR:Rd w R p)(hp:(p:Int)<=50000):Calls Tryz.prog 61 #[.pointer (N (J R 0 Y))] w fun e QH=>∃ t:ByteArray,e=.returned (U t)/\t.size<=8/\∃ q:Nat,q<=p+8/\Rd QH R q/\Only R w QH:=by
 have HR:=ae hR;clear hR;go_enter Tryz.func61,Tryz.ntmps61;go_wp2_with fail;refine(aD R p 12 _ HR (by omega) (by omega) (by omega)).mono ?_;rintro e l ⟨z,rfl,hz0,hz1,QQ,G⟩;have x:=ae QQ;have K:=ae G;clear QQ G;by_cases h3:z=3
 ·subst h3
  have M:=ae ((Qs l).alloc lr (T #[U ⟨#[97,32,98]⟩,U ⟨#[97,9,98,32,99]⟩] 9));have QN:=ae (x.below M lr);have QG:(l.alloc (T #[U ⟨#[97,32,98]⟩,U ⟨#[97,9,98,32,99]⟩] 9)).cell? (J l.heap.size 0 Y)=N (U ⟨#[97,32,98]⟩):=by simp
  have k1:(l.alloc (T #[U ⟨#[97,32,98]⟩,U ⟨#[97,9,98,32,99]⟩] 9)).cell? (J l.heap.size 1 Y)=N (U ⟨#[97,9,98,32,99]⟩):=by simp
  go_wp2_with fail;refine(aD R (p+1) 2 _ QN (by omega) (by omega) (by omega)).mono ?_;rintro e b ⟨y,rfl,B,ex,h,d⟩;have hl:=x.lt;have j0:=(d.cell l.heap.size 0 (by simp) (by omega)).trans QG;have j1:=(d.cell l.heap.size 1 (by simp) (by omega)).trans k1;have O:=ae h;have u:=ae ((K.trans (Only.of_below M)).trans d);clear h d QG k1 M;rcases(show y=0∨y=1 by omega) with rfl | rfl;all_goals
   go_wp2;go_ret;exact⟨_,rfl,by decide,p+1+1,by omega,O,u⟩
 by_cases h6:z<6
 ·rcases(show z=0∨z=1∨z=2∨z=4∨z=5 by omega) with rfl | rfl | rfl | rfl | rfl
  all_goals
   go_wp2;go_ret;exact⟨_,rfl,by decide,p+1,by omega,x,K⟩
 have n0:¬ z=0:=by omega
 have n1:¬ z=1:=by omega
 have n2:¬ z=2:=by omega
 have n4:¬ z=4:=by omega
 have n5:¬ z=5:=by omega
 go_wp2_with fail;refine(aD R (p+1) 5 _ x (by omega) (by omega) (by omega)).mono ?_;rintro e b ⟨y,rfl,B,ex,h,d⟩;have QN:=ae h;have O2:=ae (K.trans d);have A:=h.lt;clear h d;have V:=ae ((Qs b).alloc lr (T #[] 5));have W2:=ae (JD b #[] 0 (e:=5) (size:=1) (j6 b.heap.size) (by unfold maxLen;omega) rfl);obtain⟨m,rfl⟩:=x4 B;obtain⟨X,hi,W,aq,la⟩:=IS Ee;go_wp2;go_loopw [4,5] (fun v i wr=>∃ (k:Nat) (f:List UInt8),k<=m+1/\i=Q .i64 k/\Hid (f.length=k)/\Hid (wr.ownsRow b.heap.size 5 1 v k (o6 f))/\Hid (Rd wr R (p+2+k))/\Hid (Only R b wr)) (fun _ i _=>m+1 - (intOf i).toNat);case atStart=>exact⟨0,[],by omega,rfl,rfl,W2,QN.below V lr,Only.of_below V⟩
 case round =>
  obtain⟨k,f,hk,rfl,P,QL,RR,QO⟩:=hrel;have hsz:b.heap.size<=wr.heap.size:=QO.size;by_cases hlt:(k:Int)<=m
  ·go_wp2_with fail
   refine(aD R (p+2+k) 4 _ RR (by omega) (by omega) (by omega)).mono ?_;rintro e S ⟨c,rfl,fd,hc1,H,r⟩;obtain⟨C,hC⟩:=wv fd (by omega);have O:=ae H;have u:=ae (QO.trans r);have QP:=ae (gy QL r A);have QM:b.heap.size<=S.heap.size:=u.size;clear H r;go_wp2_with (at_builtin;refine CD _ rfl (.tmp 33) (.tmp 38) 22 rfl b.heap.size 5 X (Q .u8 0) 1 1 Tryz.underlying22 hi W aq la rfl (by decide) _ k (o6 f) (by simp[Act.eval]) (QP.alloc _) (J S.heap.size 0 Y) 1 1 [Q .u8 (C.toNat:Int)] (by simp[Act.eval]) rfl (dh _ _ _) (by simp[Value.oneCell']) (by unfold maxLen;omega) (by omega) (by simp;omega) ?_;intro v' w4 s n L;have O4:=ae s;have B4:=ae (bg ((eI b.heap.size S).alloc QM (T #[Q .u8 (C.toNat:Int)] 5)) n (by simp;omega) (fun j e=>(QP.lt j e).1));clear s n L);refine⟨⟨k+1,f++[C],by omega,by go_num,by show(f++[C]).length=k+1;simp[P.out],?_,?_,u.then B4.out⟩,by simp[intOf];omega⟩
   ·show World.ownsRow _ _ _ _ _ _ _
    rw[xR];exact O4
   ·exact O.low B4 A
  ·have O5:=ae (O2.trans QO)
   obtain⟨g,bt,rfl⟩:=gw QL (by omega);have QJ:=zH f wr g bt k P.out (fun j hj=>QL.cells (g:=g) rfl j _ (by simp[o6,hj]));have o:(⟨f.toArray⟩:ByteArray).size<=8:=by show f.toArray.size<=8;have:=P.out;simp;omega
   have HZ:=ae o;generalize (⟨f.toArray⟩:ByteArray)=QK at QJ HZ;clear o;go_wp2;go_ret;exact⟨QK,rfl,HZ,p+2+k,by omega,RR,O5⟩
end Go.Proofs.YtkdimgejdocbbaaGreatDoor.Vp
