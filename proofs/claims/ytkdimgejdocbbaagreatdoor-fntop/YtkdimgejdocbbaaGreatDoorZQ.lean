import Derived.Test.YtkdimgejdocbbaaGreatDoorZO
import Derived.Lib.ItoaMem
set_option maxRecDepth 100000
set_option maxHeartbeats 4000000
open Go.Addr renaming mk->J
open Option renaming none->Z,some->Q
open Go.Value renaming string->U,int->N
open Go.Obj renaming cells->T
open Go renaming World->E,Value->QB
namespace Go.Proofs.YtkdimgejdocbbaaGreatDoor.Vp
open RowKit
def o6 (b:List UInt8):List QB:=b.map fun c=>N .u8 (c.toNat:Int)
theorem Ee:(Tryz.prog.info? 5).map (fun i=>(i.zero,i.size,i.bytes))=Q (Q (N .u8 0),1,1):=by kernel_rfl
theorem gy {w j:E}{b R:Nat}{e:TypeId}{size n:Nat}{v:QB}{i:List QB}(h:w.ownsRow b e size v n i)(d:Only R w j)(hR:R<b):j.ownsRow b e size v n i:=by
 refine h.kept (row:=Q R) ⟨d.os,d.tape,d.output,d.size,fun k l f=>d.block k l (by simpa using f)⟩ ?_;rcases h.2 with ⟨rfl,_⟩ | ⟨g,cap,cur,rfl,hg,_⟩
 ·exact .inl rfl
 ·right
  simp[Value.ownBlock];omega
theorem wv {z:Int}(b:0<=z)(h1:z<159):∃ c:UInt8,97+z=(c.toNat:Int):=by obtain⟨k,rfl⟩:=xT b;refine⟨UInt8.ofNat (97+k),?_⟩;rw[UInt8.toNat_ofNat'];omega
theorem xR (b:List UInt8)(c:UInt8):o6 (b++[c])=o6 b++[N .u8 (c.toNat:Int)]:=by simp[o6]
theorem zH (b:List UInt8)(w:E)(g d k:Nat)(h:b.length=k)(i:∀ j (f:j<b.length),w.cell? (((J g 0 Z):Addr).add j)=Q (N .u8 (b[j].toNat:Int))):(convert 22 9 (.slice (Q (J g 0 Z)) k d)).run Tryz.prog w=.ok (U ⟨b.toArray⟩) w:=by subst h;refine LU _ 22 9 5 (J g 0 Z) d b Tryz.underlying22 Tryz.underlying5 Tryz.underlying9 ?_;intro j f;exact i j f
theorem fZ (R p:Nat)(w:E)(hR:Rd w R p)(hp:(p:Int)<=50000):Calls Tryz.prog 61 #[.pointer (Q (J R 0 Z))] w fun e QG=>∃ t:ByteArray,e=.returned (U t)/\t.size<=8/\∃ q:Nat,q<=p+8/\Rd QG R q/\Only R w QG:=by
 have HR:=ae hR;clear hR;go_enter Tryz.func61,Tryz.ntmps61;go_wp2_with fail;refine(aD R p 12 _ HR (by omega) (by omega) (by omega)).mono ?_;rintro e l ⟨z,rfl,hz0,hz1,A,B⟩;have u:=ae A;have S:=ae B;clear A B;by_cases h3:z=3
 ·subst h3
  have QO:=ae ((Qs l).alloc lr (T #[U ⟨#[97,32,98]⟩,U ⟨#[97,9,98,32,99]⟩] 9));have P:=ae (u.below QO lr);have W:(l.alloc (T #[U ⟨#[97,32,98]⟩,U ⟨#[97,9,98,32,99]⟩] 9)).cell? (J l.heap.size 0 Z)=Q (U ⟨#[97,32,98]⟩):=by simp
  have k1:(l.alloc (T #[U ⟨#[97,32,98]⟩,U ⟨#[97,9,98,32,99]⟩] 9)).cell? (J l.heap.size 1 Z)=Q (U ⟨#[97,9,98,32,99]⟩):=by simp
  go_wp2_with fail;refine(aD R (p+1) 2 _ P (by omega) (by omega) (by omega)).mono ?_;rintro e d ⟨y,rfl,QQ,ld,h,b⟩;have hl:=u.lt;have j0:=(b.cell l.heap.size 0 (by simp) (by omega)).trans W;have j1:=(b.cell l.heap.size 1 (by simp) (by omega)).trans k1;have QN:=ae h;have x:=ae ((S.trans (Only.of_below QO)).trans b);clear h b W k1 QO;rcases(show y=0∨y=1 by omega) with rfl | rfl;all_goals
   go_wp2;go_ret;exact⟨_,rfl,by decide,p+1+1,by omega,QN,x⟩
 by_cases h6:z<6
 ·rcases(show z=0∨z=1∨z=2∨z=4∨z=5 by omega) with rfl | rfl | rfl | rfl | rfl
  all_goals
   go_wp2;go_ret;exact⟨_,rfl,by decide,p+1,by omega,u,S⟩
 have n0:¬ z=0:=by omega
 have n1:¬ z=1:=by omega
 have n2:¬ z=2:=by omega
 have n4:¬ z=4:=by omega
 have n5:¬ z=5:=by omega
 go_wp2_with fail;refine(aD R (p+1) 5 _ u (by omega) (by omega) (by omega)).mono ?_;rintro e d ⟨y,rfl,QQ,ld,h,b⟩;have P:=ae h;have O2:=ae (S.trans b);have H:=h.lt;clear h b;have A2:=ae ((Qs d).alloc lr (T #[] 5));have W2:=ae (JC d #[] 0 (e:=5) (size:=1) (j6 d.heap.size) (by unfold maxLen;omega) rfl);obtain⟨m,rfl⟩:=xT QQ;obtain⟨ex,hi,V,la,aq⟩:=IQ Ee;go_wp2;go_loopw [4,5] (fun v i wr=>∃ (k:Nat) (f:List UInt8),k<=m+1/\i=N .i64 k/\Hid (f.length=k)/\Hid (wr.ownsRow d.heap.size 5 1 v k (o6 f))/\Hid (Rd wr R (p+2+k))/\Hid (Only R d wr)) (fun _ i _=>m+1 - (intOf i).toNat);case atStart=>exact⟨0,[],by omega,rfl,rfl,W2,P.below A2 lr,Only.of_below A2⟩
 case round =>
  obtain⟨k,f,hk,rfl,L,O,QH,M⟩:=hrel;have hsz:d.heap.size<=wr.heap.size:=M.size;by_cases hlt:(k:Int)<=m
  ·go_wp2_with fail
   refine(aD R (p+2+k) 4 _ QH (by omega) (by omega) (by omega)).mono ?_;rintro e QM ⟨c,rfl,fd,hc1,G,o⟩;obtain⟨C,hC⟩:=wv fd (by omega);have QN:=ae G;have x:=ae (M.trans o);have QP:=ae (gy O o H);have QL:d.heap.size<=QM.heap.size:=x.size;clear G o;go_wp2_with (at_builtin;refine CL _ rfl (.tmp 33) (.tmp 38) 22 rfl d.heap.size 5 ex (N .u8 0) 1 1 Tryz.underlying22 hi V la aq rfl (by decide) _ k (o6 f) (by simp[Act.eval]) (QP.alloc _) (J QM.heap.size 0 Z) 1 1 [N .u8 (C.toNat:Int)] (by simp[Act.eval]) rfl (dh _ _ _) (by simp[Value.oneCell']) (by unfold maxLen;omega) (by omega) (by simp;omega) ?_;intro v' w4 r n K;have O4:=ae r;have B4:=ae (bg ((eI d.heap.size QM).alloc QL (T #[N .u8 (C.toNat:Int)] 5)) n (by simp;omega) (fun j e=>(QP.lt j e).1));clear r n K);refine⟨⟨k+1,f++[C],by omega,by go_num,by show(f++[C]).length=k+1;simp[L.out],?_,?_,x.then B4.out⟩,by simp[intOf];omega⟩
   ·show World.ownsRow _ _ _ _ _ _ _
    rw[xR];exact O4
   ·exact QN.low B4 H
  ·have O5:=ae (O2.trans M)
   obtain⟨g,QJ,rfl⟩:=gw O (by omega);have bt:=zH f wr g QJ k L.out (fun j hj=>O.cells (g:=g) rfl j _ (by simp[o6,hj]));have s:(⟨f.toArray⟩:ByteArray).size<=8:=by show f.toArray.size<=8;have:=L.out;simp;omega
   have X:=ae s;generalize (⟨f.toArray⟩:ByteArray)=QK at bt X;clear s;go_wp2;go_ret;exact⟨QK,rfl,X,p+2+k,by omega,QH,O5⟩
end Go.Proofs.YtkdimgejdocbbaaGreatDoor.Vp
