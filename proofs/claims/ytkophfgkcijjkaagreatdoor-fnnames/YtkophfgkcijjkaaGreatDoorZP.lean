import Derived.Test.YtkophfgkcijjkaaGreatDoorZL
import Derived.Sort.Walk0
set_option maxRecDepth 100000
set_option maxHeartbeats 16000000
namespace Go.Proofs.YtkophfgkcijjkaaGreatDoor.Vp
open RowKit Go.Sort
abbrev aH (a b:ByteArray):Bool:=Op.bytesLess a.toList b.toList
theorem iC {a b c:ByteArray}(d:aH a b=true)(f:aH b c=true):aH a c=true:=by simp only[aH,bytesLess_eq,decide_eq_true_eq] at *;exact List.lt_trans d f
theorem tY {g:Nat->ByteArray}{n:Nat}(h:bP g n=true){i j:Nat}(hij:i<j)(hj:j<n):aH (g i) (g j)=true:=by
 induction j with
 | zero=>omega
 | succ m c =>
  have b:=fu (show m+2<=n by omega) h;simp only[bP,Bool.and_eq_true] at b;by_cases e:i=m
  ·subst e;exact b.2
  ·exact iC (c (by omega) (by omega)) b.2
def bS (g:Nat->ByteArray)(n:Nat)(t:ByteArray):Bool:=(List.range n).any fun i=>(g i).toList == t.toList
end Go.Proofs.YtkophfgkcijjkaaGreatDoor.Vp
namespace Go.Proofs.YtkophfgkcijjkaaGreatDoor.Vp
open RowKit
theorem nB (g:Nat->ByteArray)(t:ByteArray):bS g 0 t=false:=rfl
def cD (p:Nat->Bool):Nat->Bool
 | 0=>false
 | k+1=>cD p k || p k
theorem iV {p:Nat->Bool}{k n:Nat}(h:k<n)(c:p k=true):cD p n=true:=by
 induction n with
 | zero=>omega
 | succ m b =>
  by_cases e:k=m
  ·subst e;simp[cD,c]
  ·simp[cD,b (by omega)]
def ii (x:Source):Bool:=decide (2000<(x.text.size:Int))
def dk (x:Target):Bool:=!valid x.act x.actN
abbrev nm0 (f0:Nat->Source):Nat->ByteArray:=fun i=>(f0 i).name
abbrev nm1 (f1:Nat->Target):Nat->ByteArray:=fun i=>(f1 i).name
def bi (n0:Nat)(f0:Nat->Source)(n1:Nat)(f1:Nat->Target):Int :=
 if 200<n0+n1 then 1 else if bY (nm0 f0) n0=false then 2 else if bY (nm1 f1) n1=false then 2 else if bP (nm0 f0) n0=false then 3 else if bP (nm1 f1) n1=false then 4
 else if cD (fun i=>bS (nm1 f1) n1 (nm0 f0 i)) n0=true then 5 else if cD (fun i=>ii (f0 i)) n0=true then 6 else if cD (fun i=>dk (f1 i)) n1=true then 7 else 0
theorem ij (g:Nat->ByteArray)(k:Nat)(t:ByteArray):bS g (k+1) t=(bS g k t || ((g k).toList == t.toList)):=by simp[bS,List.range_succ]
theorem jI {g:Nat->ByteArray}{k n:Nat}{t:ByteArray}(h:k<n)(b:((g k).toList == t.toList)=true):bS g n t=true:=by simp only[bS,List.any_eq_true,List.mem_range];exact⟨k,h,b⟩
theorem oT (a0:Option Addr)(n0 c0 b off n1 c1:Nat)(f1:Nat->Target)(t:ByteArray)(w:World)(hn1:(n1:Int)<=1048576)(f:RowTarget w b off n1 f1):Calls Tryz.prog 85 #[.agg #[.slice a0 n0 c0,.slice (some ⟨b,off,none⟩) n1 c1],.string t] w fun e m=>∃ r:Int,e=.returned (.int .i64 r)/\decide (0<=r)=bS (nm1 f1) n1 t/\Below w.heap.size w m:=by
 have c:=ae ((q9 w).alloc ly (.cells #[.slice a0 n0 c0,.slice (some ⟨b,off,none⟩) n1 c1] 26));have l:=ae (f.below c.out ly);have n:(w.alloc (.cells #[.slice a0 n0 c0,.slice (some ⟨b,off,none⟩) n1 c1] 26)).cell? ⟨w.heap.size,1,none⟩=some (.slice (some ⟨b,off,none⟩) n1 c1):=by simp
 clear f;go_enter Tryz.func85,Tryz.ntmps85;go_wp2;generalize w.alloc (.cells #[.slice a0 n0 c0,.slice (some ⟨b,off,none⟩) n1 c1] 26)=W at c l n ⊢;go_loop [5] (fun i=>∃ k:Nat,k<=n1/\i=.int .i64 k/\Hid (bS (nm1 f1) k t=false)) (fun i=>n1 - (intOf i).toNat);case atStart=>exact⟨0,by omega,rfl,rfl⟩
 case round =>
  obtain⟨k,hk,rfl,j⟩:=hrel;by_cases d:k<n1
  ·obtain⟨d0,ka,kc,d1,_⟩:=l.out.2 k d
   cases hb:((f1 k).name.toList == t.toList) with
   | true =>have h:=ae hb;go_wp2;go_ret;exact⟨k,rfl,by rw[jI (g:=nm1 f1) d h.out];simp,c.out⟩
   | false =>have h:=ae hb;go_wp2;exact⟨⟨k+1,by omega,by go_num,by show bS (nm1 f1) (k+1) t=false;rw[ij,j.out];exact h.out⟩,by simp[intOf];omega⟩
  ·have e:k=n1:=by omega
   subst e;go_wp2;go_ret;exact⟨-1,rfl,by rw[j.out];rfl,c.out⟩
theorem vu {a b:ByteArray}(h:a.toList=b.toList):a=b:=by rw[ByteArray.toList_eq,ByteArray.toList_eq] at h;exact ByteArray.ext (Array.toList_inj.1 h)
theorem bytes_beq {a b:ByteArray}(h:(a.toList == b.toList)=true):a=b:=vu (by simpa using h)
theorem tZ {n0:Nat}{f0:Nat->Source}{n1:Nat}{f1:Nat->Target}(h:bi n0 f0 n1 f1=0):bP (nm0 f0) n0=true/\bP (nm1 f1) n1=true/\n0+n1<=200:=by
 unfold bi at h;split at h;· omega
 split at h;· omega
 split at h;· omega
 split at h;· omega
 split at h;· omega
 rename_i h0 _ _ b c;exact⟨by simpa using b,by simpa using c,by omega⟩
theorem slS {w:World}{a:Option Addr}{n:Nat}{f:Nat->Source}(h:SlSource w a n f)(hn:n≠0):∃ b off,a=some ⟨b,off,none⟩/\RowSource w b off n f:=h.resolve_left hn
theorem slT {w:World}{a:Option Addr}{n:Nat}{f:Nat->Target}(h:SlTarget w a n f)(hn:n≠0):∃ b off,a=some ⟨b,off,none⟩/\RowTarget w b off n f:=h.resolve_left hn
theorem oU (a0:Option Addr)(n0 c0:Nat)(a1:Option Addr)(c1:Nat)(g:Nat->ByteArray)(t:ByteArray)(w:World):Calls Tryz.prog 85 #[.agg #[.slice a0 n0 c0,.slice a1 0 c1],.string t] w fun e b=>∃ r:Int,e=.returned (.int .i64 r)/\decide (0<=r)=bS g 0 t/\Below w.heap.size w b:=by
 have c:=ae ((q9 w).alloc ly (.cells #[.slice a0 n0 c0,.slice a1 0 c1] 26));go_enter Tryz.func85,Tryz.ntmps85;go_wp2;go_loop [5] (fun i=>i=.int .i64 0) (fun _=>0);case atStart=>rfl
 case round =>subst hrel;go_wp2;go_ret;exact⟨-1,rfl,by rw[nB];rfl,c.out⟩
theorem jJ (a0:Option Addr)(n0 c0:Nat)(a1:Option Addr)(n1 c1:Nat)(f1:Nat->Target)(t:ByteArray)(w:World)(hn1:(n1:Int)<=1048576)(c:SlTarget w a1 n1 f1):Calls Tryz.prog 85 #[.agg #[.slice a0 n0 c0,.slice a1 n1 c1],.string t] w fun e d=>∃ r:Int,e=.returned (.int .i64 r)/\decide (0<=r)=bS (nm1 f1) n1 t/\Below w.heap.size w d:=by
 rcases c with rfl | ⟨b,off,rfl,f⟩
 ·exact oU a0 n0 c0 a1 c1 (nm1 f1) t w
 ·exact oT a0 n0 c0 b off n1 c1 f1 t w hn1 f
theorem eu (a0:Option Addr)(n0 c0:Nat)(f0:Nat->Source)(a1:Option Addr)(n1 c1:Nat)(f1:Nat->Target)(w:World)(hn0:(n0:Int)<=1048576)(hn1:(n1:Int)<=1048576)(n8:SlSource w a0 n0 f0)(n9:SlTarget w a1 n1 f1)(ld:∀ i,i<n1->bD (f1 i))(hs:∀ i,i<n1->∀ j,j<(f1 i).actN->((f1 i).act j).s.size<=maxLen):Calls Tryz.prog 60 #[.agg #[.slice a0 n0 c0,.slice a1 n1 c1]] w fun e w'=>e=.returned (.int .i64 (bi n0 f0 n1 f1))/\Below w.heap.size w w':=by
 have V0:=ae n8;have Y:=ae n9;have HF:=ae ld;have HS:=ae hs;clear n8 n9 ld hs;obtain⟨C,hC⟩:∃ C,C=bi n0 f0 n1 f1:=⟨_,rfl⟩
 rw[<-hC];unfold bi at hC;have HC:=ae hC;clear hC;have Q:=ae ((q9 w).alloc ly (.cells #[.slice a0 n0 c0,.slice a1 n1 c1] 26));have B:(w.alloc (.cells #[.slice a0 n0 c0,.slice a1 n1 c1] 26)).cell? ⟨w.heap.size,0,none⟩=some (.slice a0 n0 c0):=by simp
 have P:(w.alloc (.cells #[.slice a0 n0 c0,.slice a1 n1 c1] 26)).cell? ⟨w.heap.size,1,none⟩=some (.slice a1 n1 c1):=by simp
 have z0:w.heap.size<(w.alloc (.cells #[.slice a0 n0 c0,.slice a1 n1 c1] 26)).heap.size:=by simp
 go_enter Tryz.func60,Tryz.ntmps60;by_cases h1:(200:Int)<n0+n1
 ·have d:=HC.out
  rw[if_pos (by omega)] at d;subst d;go_wp2;go_ret;exact⟨rfl,Q.out⟩
 have bt:=HC.out;rw[if_neg (by omega)] at bt;have V:=ae bt;clear bt HC;go_wp2;generalize w.alloc (.cells #[.slice a0 n0 c0,.slice a1 n1 c1] 26)=W0 at Q B P z0 ⊢;go_loopw [5] (fun i wr=>∃ k:Nat,k<=n0/\i=.int .i64 k/\Hid (bY (nm0 f0) k=true)/\Below W0.heap.size W0 wr) (fun i _=>n0 - (intOf i).toNat);case atStart=>exact⟨0,by omega,rfl,rfl,Below.refl _ _⟩
 case round =>
  obtain⟨k,T,rfl,m,c⟩:=hrel;have N:=(c.cell (p:=⟨w.heap.size,0,none⟩) z0).trans B;have L:=(c.cell (p:=⟨w.heap.size,1,none⟩) z0).trans P;have z1:w.heap.size<wr.heap.size:=lj z0 c.size;have n:=ae c;have U:=ae (Q.out.trans (c.mono Q.out.size));clear c;by_cases f:k<n0
  ·obtain⟨b,off,rfl,h⟩:=slS V0.out (by omega)
   obtain⟨u,x⟩:=(h.2 k f).below U.out h.1;clear h B P;go_wp2_with fail;refine(bk _ _).mono ?_;rintro e w1 ⟨rfl,o⟩;have t:=ae (n.out.trans (o.mono n.out.size));clear o;cases l:aw (f0 k).name with
   | true =>have q:=ae l;clear l;go_wp2;exact⟨⟨k+1,by omega,by go_num,by show bY (nm0 f0) (k+1)=true;simp[bY,m.out,q.out],t.out⟩,by simp[intOf];omega⟩
   | false =>have q:=ae l;have d:=V.out;rw[if_pos (jE (g:=(nm0 f0)) f q.out)] at d;subst d;clear l;go_wp2;go_ret;exact⟨rfl,Q.out.trans (t.out.mono Q.out.size)⟩
  ·have e:n0=k:=by omega
   subst e;have d:=V.out;rw[if_neg (by simp[m.out])] at d;have ex:=ae d;clear d V m n B P;go_wp2;generalize wr=W1 at N L z1 U ⊢;go_loopw [6] (fun i wr=>∃ k:Nat,k<=n1/\i=.int .i64 k/\Hid (bY (nm1 f1) k=true)/\Below W1.heap.size W1 wr) (fun i _=>n1 - (intOf i).toNat);case atStart=>exact⟨0,by omega,rfl,rfl,Below.refl _ _⟩
   case round =>
    obtain⟨k,T,rfl,m,c⟩:=hrel;have O:=(c.cell (p:=⟨w.heap.size,0,none⟩) z1).trans N;have H:=(c.cell (p:=⟨w.heap.size,1,none⟩) z1).trans L;have z2:w.heap.size<wr.heap.size:=lj z1 c.size;have n:=ae c;have S:=ae (U.out.trans (c.mono U.out.size));clear c;by_cases f:k<n1
    ·obtain⟨b,off,rfl,h⟩:=slT Y.out (by omega)
     obtain⟨u,ka,kc,x,_⟩:=(h.2 k f).below S.out ly h.1;clear h N L;go_wp2_with fail;refine(bk _ _).mono ?_;rintro e w1 ⟨rfl,o⟩;have t:=ae (n.out.trans (o.mono n.out.size));clear o;cases l:aw (f1 k).name with
     | true =>have q:=ae l;clear l;go_wp2;exact⟨⟨k+1,by omega,by go_num,by show bY (nm1 f1) (k+1)=true;simp[bY,m.out,q.out],t.out⟩,by simp[intOf];omega⟩
     | false =>have q:=ae l;have d:=ex.out;rw[if_pos (jE (g:=(nm1 f1)) f q.out)] at d;subst d;clear l;go_wp2;go_ret;exact⟨rfl,U.out.trans (t.out.mono U.out.size)⟩
    ·have e:n1=k:=by omega
     subst e;have d:=ex.out;rw[if_neg (by simp[m.out])] at d;have fd:=ae d;clear d ex m n N L;go_wp2;generalize wr=W2 at O H z2 S ⊢;go_loopw [7] (fun i wr=>∃ k:Nat,(k+1<=n0∨k=0)/\i=.int .i64 ((k:Int)+1)/\Hid (bP (nm0 f0) (k+1)=true)/\Below W2.heap.size W2 wr) (fun i _=>n0+1 - (intOf i).toNat);case atStart=>exact⟨0,.inr rfl,rfl,rfl,Below.refl _ _⟩
     case round =>
      obtain⟨k,T,rfl,m,c⟩:=hrel;have G:=(c.cell (p:=⟨w.heap.size,0,none⟩) z2).trans O;have M:=(c.cell (p:=⟨w.heap.size,1,none⟩) z2).trans H;have z3:w.heap.size<wr.heap.size:=lj z2 c.size;have n:=ae c;have z:=ae (S.out.trans (c.mono S.out.size));clear c;by_cases f:k+1<n0
      ·obtain⟨b,off,rfl,h⟩:=slS V0.out (by omega)
       obtain⟨u,x⟩:=(h.2 k (by omega)).below z.out h.1;obtain⟨e0,e1⟩:=(h.2 (k+1) f).below z.out h.1;have qr:(k:Int)+1<n0:=by omega
       clear h O H;go_wp2_with fail;go_quiet (fail);have t:=ae (below_drewN n.out nq);clear u x e0 e1;generalize wr.drewN nq=X at t ⊢;cases l:Op.bytesLess (f0 k).name.toList (f0 (k+1)).name.toList with
       | true =>have q:=ae l;clear l;go_wp2;exact⟨⟨k+1,.inl (by omega),by go_num,by show bP (nm0 f0) (k+2)=true;simp[bP,m.out,q.out],t.out⟩,by simp[intOf];omega⟩
       | false =>have q:=ae l;have d:=fd.out;rw[if_pos (kz (g:=(nm0 f0)) f q.out)] at d;subst d;clear l;go_wp2;go_ret;exact⟨rfl,S.out.trans (t.out.mono S.out.size)⟩
      ·have sm:¬ (k:Int)+1<n0:=by omega
       have d:=fd.out;rw[if_neg (by simp[fu (show n0<=k+1 by omega) m.out])] at d;have aq:=ae d;clear d fd m n O H;go_wp2;generalize wr=W3 at G M z3 z ⊢;go_loopw [8] (fun i wr=>∃ k:Nat,(k+1<=n1∨k=0)/\i=.int .i64 ((k:Int)+1)/\Hid (bP (nm1 f1) (k+1)=true)/\Below W3.heap.size W3 wr) (fun i _=>n1+1 - (intOf i).toNat);case atStart=>exact⟨0,.inr rfl,rfl,rfl,Below.refl _ _⟩
       case round =>
        obtain⟨k,T,rfl,m,c⟩:=hrel;have K:=(c.cell (p:=⟨w.heap.size,0,none⟩) z3).trans G;have I:=(c.cell (p:=⟨w.heap.size,1,none⟩) z3).trans M;have z4:w.heap.size<wr.heap.size:=lj z3 c.size;have n:=ae c;have A:=ae (z.out.trans (c.mono z.out.size));clear c;by_cases f:k+1<n1
        ·obtain⟨b,off,rfl,h⟩:=slT Y.out (by omega)
         obtain⟨u,ka,kc,x,_⟩:=(h.2 k (by omega)).below A.out ly h.1;obtain⟨e0,kb,kd,e1,_⟩:=(h.2 (k+1) f).below A.out ly h.1;have qr:(k:Int)+1<n1:=by omega
         clear h G M;go_wp2_with fail;go_quiet (fail);have t:=ae (below_drewN n.out nq);clear u x e0 e1;generalize wr.drewN nq=X at t ⊢;cases l:Op.bytesLess (f1 k).name.toList (f1 (k+1)).name.toList with
         | true =>have q:=ae l;clear l;go_wp2;exact⟨⟨k+1,.inl (by omega),by go_num,by show bP (nm1 f1) (k+2)=true;simp[bP,m.out,q.out],t.out⟩,by simp[intOf];omega⟩
         | false =>have q:=ae l;have d:=aq.out;rw[if_pos (kz (g:=(nm1 f1)) f q.out)] at d;subst d;clear l;go_wp2;go_ret;exact⟨rfl,z.out.trans (t.out.mono z.out.size)⟩
        ·have sm:¬ (k:Int)+1<n1:=by omega
         have d:=aq.out;rw[if_neg (by simp[fu (show n1<=k+1 by omega) m.out])] at d;have Z:=ae d;clear d aq m n G M;go_wp2;generalize wr=W4 at K I z4 A ⊢;go_loopw [9] (fun i wr=>∃ k:Nat,k<=n0/\i=.int .i64 k/\Hid (cD (fun i=>bS (nm1 f1) n1 (nm0 f0 i)) k=false)/\Below W4.heap.size W4 wr) (fun i _=>n0 - (intOf i).toNat);case atStart=>exact⟨0,by omega,rfl,rfl,Below.refl _ _⟩
         case round =>
          obtain⟨k,T,rfl,m,c⟩:=hrel;have J:=(c.cell (p:=⟨w.heap.size,0,none⟩) z4).trans K;have D:=(c.cell (p:=⟨w.heap.size,1,none⟩) z4).trans I;have z5:w.heap.size<wr.heap.size:=lj z4 c.size;have n:=ae c;have y:=ae (A.out.trans (c.mono A.out.size));clear c;by_cases f:k<n0
          ·obtain⟨b,off,rfl,h⟩:=slS V0.out (by omega)
           obtain⟨u,x⟩:=(h.2 k f).below y.out h.1;clear h K I;go_wp2_with fail;go_region_with (go_at_call 85;refine(jJ (some ⟨b,off,none⟩) n0 c0 a1 n1 c1 f1 (f0 k).name _ hn1 ?_).mono ?_;(first | exact Y.out.below y.out ly | exact Y.out.below y.out.drew ly);rintro e w1 ⟨r,rfl,hd,o⟩;have HD:=ae hd;clear hd;have t:Hid (Below wr.heap.size wr w1):=⟨o.os,o.tape,o.output,o.size,o.block⟩;clear o);all_goals
            have B2:=ae (n.out.trans (t.out.mono n.out.size));clear u x t;by_cases l:0<=r
            ·have d:=Z.out
             rw[if_pos (iV f (by have:=HD.out;rw[decide_eq_true l] at this;exact this.symm))] at d;subst d;go_wp2;go_ret;exact⟨rfl,A.out.trans (B2.out.mono A.out.size)⟩
            ·have q:=ae l
             go_wp2;exact⟨⟨k+1,by omega,by go_num,by show cD _ (k+1)=false;have:=HD.out;rw[decide_eq_false q.out] at this;simp[cD,m.out,<-this],B2.out⟩,by simp[intOf];omega⟩
          ·have e:n0=k:=by omega
           subst e;have d:=Z.out;rw[if_neg (by simp[m.out])] at d;have la:=ae d;clear d Z m n K I;go_wp2;generalize wr=W5 at J D z5 y ⊢;go_loopw [10] (fun i wr=>∃ k:Nat,k<=n0/\i=.int .i64 k/\Hid (cD (fun i=>ii (f0 i)) k=false)/\Below W5.heap.size W5 wr) (fun i _=>n0 - (intOf i).toNat);case atStart=>exact⟨0,by omega,rfl,rfl,Below.refl _ _⟩
           case round =>
            obtain⟨k,T,rfl,m,c⟩:=hrel;have W:=(c.cell (p:=⟨w.heap.size,0,none⟩) z5).trans J;have mv:=(c.cell (p:=⟨w.heap.size,1,none⟩) z5).trans D;have z6:w.heap.size<wr.heap.size:=lj z5 c.size;have n:=ae c;have R:=ae (y.out.trans (c.mono y.out.size));clear c;by_cases f:k<n0
            ·obtain⟨b,off,rfl,h⟩:=slS V0.out (by omega)
             obtain⟨u,x⟩:=(h.2 k f).below R.out h.1;clear h J D;by_cases l:(2000:Int)<(f0 k).text.size
             ·have d:=la.out
              rw[if_pos (iV f (by simpa[ii] using l))] at d;subst d;go_wp2;go_ret;exact⟨rfl,y.out.trans (n.out.mono y.out.size)⟩
             ·have q:Hid (ii (f0 k)=false):=decide_eq_false l
              go_wp2;exact⟨⟨k+1,by omega,by go_num,by show cD _ (k+1)=false;simp[cD,m.out,q.out],n.out⟩,by simp[intOf];omega⟩
            ·have e:n0=k:=by omega
             subst e;have d:=la.out;rw[if_neg (by simp[m.out])] at d;have ro:=ae d;clear d la m n J D;go_wp2;generalize wr=W6 at W mv z6 R ⊢;go_loopw [11,4] (fun i v wr=>∃ (k:Nat) (r:Int),k<=n1/\i=.int .i64 k/\v=.int .i64 r/\Hid (r=if cD (fun i=>dk (f1 i)) k=true then 7 else 0)/\Below W6.heap.size W6 wr) (fun i _ _=>n1 - (intOf i).toNat);case atStart=>exact⟨0,0,by omega,rfl,rfl,rfl,Below.refl _ _⟩
             case round =>
              obtain⟨k,r,T,rfl,rfl,m,c⟩:=hrel;have k70:=(c.cell (p:=⟨w.heap.size,0,none⟩) z6).trans W;have k71:=(c.cell (p:=⟨w.heap.size,1,none⟩) z6).trans mv;have z7:w.heap.size<wr.heap.size:=lj z6 c.size;have n:=ae c;have A7:=ae (R.out.trans (c.mono R.out.size));clear c;by_cases f:k<n1
              ·obtain⟨b,off,rfl,h⟩:=slT Y.out (by omega)
               obtain⟨u,ka,kc,x,hx⟩:=(h.2 k f).below A7.out ly h.1;have HX:=ae hx;clear h hx W mv;go_wp2_with fail;refine(gJ ka (f1 k).actN kc (f1 k).act _ (HF.out k f) HX.out (HS.out k f)).mono ?_;rintro e w1 ⟨rfl,o⟩;have t:=ae (n.out.trans (o.mono n.out.size));clear o u x;cases l:valid (f1 k).act (f1 k).actN with
               | true =>
                have q:=ae l;clear l;have E:Hid (cD (fun i=>dk (f1 i)) (k+1)=cD (fun i=>dk (f1 i)) k):=by show(cD _ k || dk (f1 k))=_;rw[show dk (f1 k)=false by unfold dk;rw[q.out];rfl,Bool.or_false]
                go_wp2;exact⟨⟨k+1,r,by omega,by go_num,rfl,by show r=_;rw[E.out];exact m.out,t.out⟩,by simp[intOf];omega⟩
               | false =>
                have q:=ae l;clear l;have E:Hid (cD (fun i=>dk (f1 i)) (k+1)=true):=by show(cD _ k || dk (f1 k))=_;rw[show dk (f1 k)=true by unfold dk;rw[q.out];rfl,Bool.or_true]
                go_wp2;exact⟨⟨k+1,7,by omega,by go_num,rfl,by show(7:Int)=_;rw[if_pos E.out],t.out⟩,by simp[intOf];omega⟩
              ·have e:n1=k:=by omega
               subst e;have d:=ro.out;rw[<-m.out] at d;subst d;go_wp2;go_ret;exact⟨rfl,R.out.trans (n.out.mono R.out.size)⟩
end Go.Proofs.YtkophfgkcijjkaaGreatDoor.Vp
