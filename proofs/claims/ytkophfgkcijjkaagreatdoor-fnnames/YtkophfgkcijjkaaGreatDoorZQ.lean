import Derived.Test.YtkophfgkcijjkaaGreatDoorZO
import Derived.Lib.ItoaMem
set_option maxRecDepth 100000
set_option maxHeartbeats 4000000
namespace Go.Proofs.YtkophfgkcijjkaaGreatDoor.Vp
open RowKit
def mH (b:List UInt8):List Value:=b.map fun c=>.int .u8 (c.toNat:Int)
theorem yG:(Tryz.prog.info? 5).map (fun i=>(i.zero,i.size,i.bytes))=some (some (.int .u8 0),1,1):=by kernel_rfl
theorem fh {w f:World}{b R:Nat}{e:TypeId}{size n:Nat}{v:Value}{i:List Value}(h:w.ownsRow b e size v n i)(c:Only R w f)(hR:R<b):f.ownsRow b e size v n i:=by
 refine h.kept (row:=some R) ⟨c.os,c.tape,c.output,c.size,fun k j d=>c.block k j (by simpa using d)⟩ ?_;rcases h.2 with ⟨rfl,_⟩ | ⟨g,cap,cur,rfl,hg,_⟩
 ·exact .inl rfl
 ·right
  simp[Value.ownBlock];omega
theorem sM {z:Int}(b:0<=z)(h1:z<159):∃ c:UInt8,97+z=(c.toNat:Int):=by obtain⟨k,rfl⟩:=Int.eq_ofNat_of_zero_le b;refine⟨UInt8.ofNat (97+k),?_⟩;rw[UInt8.toNat_ofNat'];omega
theorem t6 (b:List UInt8)(c:UInt8):mH (b++[c])=mH b++[.int .u8 (c.toNat:Int)]:=by simp[mH]
theorem vv (b:List UInt8)(w:World)(g cap k:Nat)(d:b.length=k)(f:∀ j (c:j<b.length),w.cell? ((⟨g,0,none⟩:Addr).add j)=some (.int .u8 (b[j].toNat:Int))):(convert 22 9 (.slice (some ⟨g,0,none⟩) k cap)).run Tryz.prog w=.ok (.string ⟨b.toArray⟩) w:=by subst d;refine run_convert_bytes_back _ 22 9 5 ⟨g,0,none⟩ cap b Tryz.underlying22 Tryz.underlying5 Tryz.underlying9 ?_;intro j c;exact f j c
theorem fy (R p:Nat)(w:World)(hR:Rd w R p)(hp:(p:Int)<=50000):Calls Tryz.prog 55 #[.pointer (some ⟨R,0,none⟩)] w fun e V=>∃ t:ByteArray,e=.returned (.string t)/\t.size<=8/\∃ q:Nat,q<=p+8/\Rd V R q/\Only R w V:=by
 have HR:=ae hR;clear hR;go_enter Tryz.func55,Tryz.ntmps55;go_wp2_with fail;refine(aA R p 12 _ HR.out (by omega) (by omega) (by omega)).mono ?_;rintro e l ⟨z,rfl,hz0,hz1,G,H⟩;have u:=ae G;have M:=ae H;clear G H;by_cases h3:z=3
 ·subst h3
  have S:=ae ((q9 l).alloc ly (.cells #[.string ⟨#[97,32,98]⟩,.string ⟨#[97,9,98,32,99]⟩] 9));have L:=ae (u.out.below S.out ly);have U:(l.alloc (.cells #[.string ⟨#[97,32,98]⟩,.string ⟨#[97,9,98,32,99]⟩] 9)).cell? ⟨l.heap.size,0,none⟩=some (.string ⟨#[97,32,98]⟩):=by simp
  have k1:(l.alloc (.cells #[.string ⟨#[97,32,98]⟩,.string ⟨#[97,9,98,32,99]⟩] 9)).cell? ⟨l.heap.size,1,none⟩=some (.string ⟨#[97,9,98,32,99]⟩):=by simp
  go_wp2_with fail;refine(aA R (p+1) 2 _ L.out (by omega) (by omega) (by omega)).mono ?_;rintro e d ⟨y,rfl,D,ex,h,b⟩;have hl:=u.out.lt;have j0:=(b.cell l.heap.size 0 (by simp) (by omega)).trans U;have j1:=(b.cell l.heap.size 1 (by simp) (by omega)).trans k1;have J:=ae h;have x:=ae ((M.out.trans (Only.of_below S.out)).trans b);clear h b U k1 S;rcases(show y=0∨y=1 by omega) with rfl | rfl;all_goals
   go_wp2;go_ret;exact⟨_,rfl,by decide,p+1+1,by omega,J.out,x.out⟩
 by_cases h6:z<6
 ·rcases(show z=0∨z=1∨z=2∨z=4∨z=5 by omega) with rfl | rfl | rfl | rfl | rfl
  all_goals
   go_wp2;go_ret;exact⟨_,rfl,by decide,p+1,by omega,u.out,M.out⟩
 have n0:¬ z=0:=by omega
 have n1:¬ z=1:=by omega
 have n2:¬ z=2:=by omega
 have n4:¬ z=4:=by omega
 have n5:¬ z=5:=by omega
 go_wp2_with fail;refine(aA R (p+1) 5 _ u.out (by omega) (by omega) (by omega)).mono ?_;rintro e d ⟨y,rfl,D,ex,h,b⟩;have L:=ae h;have O2:=ae (M.out.trans b);have E:=h.lt;clear h b;have Z:=ae ((q9 d).alloc ly (.cells #[] 5));have W2:=ae (World.ownsRow_made d #[] 0 (e:=5) (size:=1) (Nat.le_refl d.heap.size) (by unfold maxLen;omega) rfl);obtain⟨m,rfl⟩:=Int.eq_ofNat_of_zero_le D;obtain⟨X,hi,bt,fd,Y⟩:=info_parts yG;go_wp2;go_loopw [4,5] (fun v i wr=>∃ (k:Nat) (f:List UInt8),k<=m+1/\i=.int .i64 k/\Hid (f.length=k)/\Hid (wr.ownsRow d.heap.size 5 1 v k (mH f))/\Hid (Rd wr R (p+2+k))/\Hid (Only R d wr)) (fun _ i _=>m+1 - (intOf i).toNat);case atStart=>exact⟨0,[],by omega,rfl,rfl,W2.out,L.out.below Z.out ly,Only.of_below Z.out⟩
 case round =>
  obtain⟨k,f,hk,rfl,Q,K,RR,P⟩:=hrel;have hsz:d.heap.size<=wr.heap.size:=P.out.size;by_cases hlt:(k:Int)<=m
  ·go_wp2_with fail
   refine(aA R (p+2+k) 4 _ RR.out (by omega) (by omega) (by omega)).mono ?_;rintro e N ⟨c,rfl,aq,hc1,A,r⟩;obtain⟨C,hC⟩:=sM aq (by omega);have J:=ae A;have x:=ae (P.out.trans r);have B:=ae (fh K.out r E);have I:d.heap.size<=N.heap.size:=x.out.size;clear A r;go_wp2_with (at_builtin;refine wpList_append_own _ rfl (.tmp 33) (.tmp 38) 22 rfl d.heap.size 5 X (.int .u8 0) 1 1 Tryz.underlying22 hi bt fd Y rfl (by decide) _ k (mH f) (by simp[Act.eval]) (B.out.alloc _) ⟨N.heap.size,0,none⟩ 1 1 [.int .u8 (C.toNat:Int)] (by simp[Act.eval]) rfl (dL _ _ _) (by simp[Value.oneCell']) (by unfold maxLen;omega) (by omega) (by simp;omega) ?_;intro v' w4 s n O;have O4:=ae s;have W:=ae (bg ((Below.refl d.heap.size N).alloc I (.cells #[.int .u8 (C.toNat:Int)] 5)) n (by simp;omega) (fun j e=>(B.out.lt j e).1));clear s n O);refine⟨⟨k+1,f++[C],by omega,by go_num,by show(f++[C]).length=k+1;simp[Q.out],?_,?_,x.out.then W.out⟩,by simp[intOf];omega⟩
   ·show World.ownsRow _ _ _ _ _ _ _
    rw[t6];exact O4.out
   ·exact J.out.low W.out E
  ·have O5:=ae (O2.out.trans P.out)
   obtain⟨g,cap,rfl⟩:=fJ K.out (by omega);have la:=vv f wr g cap k Q.out (fun j hj=>K.out.cells (g:=g) rfl j _ (by simp[mH,hj]));have o:(⟨f.toArray⟩:ByteArray).size<=8:=by show f.toArray.size<=8;have:=Q.out;simp;omega
   have HZ:=ae o;generalize (⟨f.toArray⟩:ByteArray)=T at la HZ;clear o;go_wp2;go_ret;exact⟨T,rfl,HZ.out,p+2+k,by omega,RR.out,O5.out⟩
end Go.Proofs.YtkophfgkcijjkaaGreatDoor.Vp
