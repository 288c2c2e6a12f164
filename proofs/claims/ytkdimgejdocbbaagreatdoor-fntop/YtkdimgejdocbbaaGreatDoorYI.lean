import Derived.Test.YtkdimgejdocbbaaGreatDoorYG
import Derived.Laws.StructEq
set_option maxRecDepth 100000
set_option maxHeartbeats 4000000
open Go.Addr renaming mk->J
open Go.Value renaming slice->Z,string->U,int->Q,bool->QA,agg->QE
open Option renaming none->Y,some->N
open Go.IntKind renaming i64->I
open Go renaming World->E
open Bool renaming false->D,true->QC
open Go.Ending renaming returned->QD
namespace Go.Proofs.YtkdimgejdocbbaaGreatDoor.Vp
open RowKit
theorem ya (x y:Ins)(w:E):(binOp .neq 188 (QE #[Q I x.op,U x.s,Q I x.n]) (QE #[Q I y.op,U y.s,Q I y.n])).run Tryz.prog w=.ok (QA (!j7 x y)) w:=by
 have f:Tryz.prog.underlying 188=N (.struct (Tryz.prog.fieldsOf 188)):=by kernel_rfl
 have d:Tryz.prog.stoodInHeld 188=D:=by kernel_rfl
 rw[run_neq_struct,show(10000:Nat)=9999+1 from rfl,run_equalIn_agg w 9999 188 _ _ f d];simp only[Program.fieldsOf,Tryz.underlying188];go_simp;unfold j7;by_cases h1:x.op=y.op<;>by_cases h2:x.s.toList=y.s.toList<;>by_cases b:x.n=y.n<;>simp[h1,h2,b]
theorem r8 (b off n s:Nat)(f:Nat->Ins)(z d p:Nat)(g:Nat->Ins)(w:E)(hn:n<=1048576)(t:RowIns w b off n f)(y:RowIns w z d n g):Calls Tryz.prog 231 #[Z (N (J b off Y)) n s,Z (N (J z d Y)) n p] w fun e QP=>e=QD (QA (cU f g n))/\∃ m,QP=w.drewN m:=by
 have C:=ae t;have B:=ae y;clear t y;go_enter Tryz.func231,Tryz.ntmps231;go_wp2;go_loopw [13] (fun i wr=>∃ k:Nat,k<=n/\i=Q I k/\Hid (cU f g k=QC)/\Hid (∃ q,wr=w.drewN q)) (fun i _=>n - (intOf i).toNat);case atStart=>exact⟨0,by omega,rfl,rfl,0,rfl⟩
 case round =>
  obtain⟨k,hk,rfl,A,o⟩:=hrel;have x:Hid (Below w.heap.size w wr):=by obtain⟨q,l⟩:=o.out;rw[l];exact xT br q
  by_cases h:k<n
  ·obtain⟨c0,c1,c2⟩:=(C.out.below x.out lr).2 k h
   obtain⟨H,G,QQ⟩:=(B.out.below x.out lr).2 k h;have hlt2:(k:Int)<n:=by omega
   have u:=ya (f k) (g k);go_wp2_with fail;go_quiet (fail);have j:Hid (∃ q,wr.drewN nq=w.drewN q):=by obtain⟨q,l⟩:=o.out;exact⟨q+nq,by rw[l,World.drewN_drewN]⟩
   clear c0 c1 c2 H G QQ u;generalize wr.drewN nq=W at j ⊢;cases hb:j7 (f k) (g k) with
   | true =>have r:=ae hb;clear hb;go_wp2;exact⟨⟨k+1,by omega,by go_num,by show cU f g (k+1)=QC;rw[cU,A.out,r.out];rfl,j.out⟩,by simp[intOf];omega⟩
   | false =>have r:=ae hb;clear hb;go_wp2;go_ret;exact⟨aW (mH h r.out).symm,j.out⟩
  ·obtain rfl:k=n:=by omega
   go_wp2;go_ret;exact⟨aW A.out.symm,o.out⟩
theorem lS (a:Option Addr)(d:Nat)(f:Option Addr)(b:Nat)(w:E):Calls Tryz.prog 231 #[Z a 0 d,Z f 0 b] w fun e g=>e=QD (QA QC)/\g=w:=by
 go_enter Tryz.func231,Tryz.ntmps231;go_wp2;go_loop [13] (fun i=>i=Q I 0) (fun _=>0);case atStart=>rfl
 case round =>subst hrel;go_wp2;go_ret;exact⟨rfl,rfl⟩
theorem r9 (a:Option Addr)(n d:Nat)(f:Option Addr)(m b:Nat)(w:E)(h:(n:Int)≠m):Calls Tryz.prog 231 #[Z a n d,Z f m b] w fun e g=>e=QD (QA D)/\g=w:=by
 have h2:((n:Int) == (m:Int))=D:=by simpa using h
 go_enter Tryz.func231,Tryz.ntmps231;go_wp2;go_ret;exact⟨rfl,rfl⟩
theorem sd (a:Option Addr)(n i:Nat)(f:Nat->Ins)(j:Option Addr)(m d:Nat)(g:Nat->Ins)(w:E)(u:n<=1048576)(hm:m<=1048576)(r:SlIns w a n f)(o:SlIns w j m g):Calls Tryz.prog 231 #[Z a n i,Z j m d] w fun e k=>e=QD (QA (cL f g n m))/\∃ m,k=w.drewN m:=by
 by_cases h:n=m
 ·subst h
  have l:cL f g n n=cU f g n:=by simp[cL]
  rw[l];rcases r with rfl | ⟨b,off,rfl,r⟩
  ·exact(lS a i j d w).mono fun e k ⟨p,q⟩=>⟨p,0,by rw[q];rfl⟩
  ·rcases o with rfl | ⟨t,s,rfl,o⟩
   ·exact(lS _ i j d w).mono fun e k ⟨p,q⟩=>⟨p,0,by rw[q];rfl⟩
   ·exact r8 b off n i f t s d g w u r o
 ·have l:cL f g n m=D:=by simp[cL,h]
  rw[l];exact(r9 a n i j m d w (by omega)).mono fun e k ⟨p,q⟩=>⟨p,0,by rw[q];rfl⟩
theorem Ac (QK K n M:Nat)(s:Option Addr)(n0 t:Nat)(f0:Nat->Source)(k:Option Addr)(n1 x:Nat)(f1:Nat->Target)(d:aj)(a0:Option Addr)(z:Nat)(a1:Option Addr)(QN:Nat)(w:E)(hn0:(n0:Int)<=1048576)(hn1:(n1:Int)<=1048576)(L:SlSource w s n0 f0)(O:SlTarget w k n1 f1)(QL:aE (nm0 f0) n0=QC)(P:aE (nm1 f1) n1=QC)(QH:SlIns w a0 d.actN d.act)(aq:d.actN<=1048576)(QM:∀ i,i<n1->aS (f1 i)):Calls Tryz.prog 188 #[QE #[Z (N (J QK K Y)) n M,Z s n0 t,Z k n1 x],QE #[U d.name,Q I d.kind,Q I d.code,U d.text,Z a0 d.actN z,Z a1 d.linksN QN]] w fun e w'=>e=QD (QA (iU n0 f0 n1 f1 d))/\Below w.heap.size w w':=by
 obtain⟨r,R⟩:∃ r,r=iU n0 f0 n1 f1 d:=⟨_,rfl⟩
 rw[<-R];have QO:=ae (show r=if d.kind=1 then !lN n0 f0 d.name d.text else if d.kind=3 then !ki n1 f1 d.name d.actN d.act else jB n0 f0 n1 f1 d.name from R);clear R;have f:=ae (((Qs w).alloc lr (.cells #[Z (N (J QK K Y)) n M,Z s n0 t,Z k n1 x] 165)).alloc (by simp) (.cells #[U d.name,Q I d.kind,Q I d.code,U d.text,Z a0 d.actN z,Z a1 d.linksN QN] 58));have H:=ae L;have QQ:=ae O;have G:=ae QL;have C:=ae P;have HI:=ae QH;have X:=ae QM;clear L O QL P QH QM;by_cases B:d.kind=1
 ·have y:Hid (r=!lN n0 f0 d.name d.text):=by show _=_;rw[QO.out,eT B]
  clear QO;rw[B] at f ⊢;go_enter Tryz.func188,Tryz.ntmps188;go_wp2_with fail;refine(eA s n0 t k n1 x f0 d.name _ hn0 (H.out.below f.out lr) G.out).mono ?_;rintro e j ⟨i,rfl,hi,h1,h2,h⟩;have g:=iK G.out hi h1 h2;have g1:j.cell? (J w.heap.size 1 Y)=N (Z s n0 t):=(h.cell (p:=(J w.heap.size 1 Y)) (by simp;omega)).trans (by simp[go_sem]);have d3:j.cell? (J (w.heap.size+1) 3 Y)=N (U d.text):=(h.cell (p:=(J (w.heap.size+1) 3 Y)) (by simp)).trans (by simp[go_sem]);have W:w.heap.size+1<j.heap.size:=by have:=h.size;simp at this;omega
  have l:=ae (f.out.trans (h.mono f.out.size));clear h h1 h2 f;cases hq:aF (nm0 f0) n0 d.name with
  | false =>
   obtain rfl:r=QC:=by rw[y.out];unfold lN;rw[rG hq];rfl
   clear g;go_wp2_with fail;go_quiet (fail);go_wp2;go_ret;exact⟨rfl,xT l.out _⟩
  | true =>
   rw[hq] at g;obtain⟨u,A⟩:i<n0/\((nm0 f0 i).toList == d.name.toList)=QC:=by simpa using g.symm
   have o:Hid (r=!((f0 i).text.toList == d.text.toList)):=by show _=_;rw[y.out];unfold lN;rw[uE G.out u A]
   obtain⟨b,off,rfl,m⟩:=H.out.resolve_left (by omega);obtain⟨e0,e1⟩:=(m.below l.out lr).2 i u;have S:(i:Int)<n0:=by omega
   clear g A m y H;cases ht:((f0 i).text.toList == d.text.toList) with
   | true =>
    obtain rfl:r=D:=by rw[o.out,ht];rfl
    go_wp2_with fail;go_quiet (fail);go_wp2;go_ret;exact⟨rfl,xT l.out _⟩
   | false =>
    obtain rfl:r=QC:=by rw[o.out,ht];rfl
    go_wp2_with fail;go_quiet (fail);go_wp2;go_ret;exact⟨rfl,xT l.out _⟩
 ·by_cases QP:d.kind=3
  ·have y:Hid (r=!ki n1 f1 d.name d.actN d.act):=by show _=_;rw[QO.out,a8 B,eT QP]
   clear QO;rw[QP] at f ⊢;go_enter Tryz.func188,Tryz.ntmps188;go_wp2_with fail;refine(fy s n0 t k n1 x f1 d.name _ hn1 (QQ.out.below f.out lr) C.out).mono ?_;rintro e j ⟨i,rfl,hi,h1,h2,h⟩;have g:=iK C.out hi h1 h2;have g2:j.cell? (J w.heap.size 2 Y)=N (Z k n1 x):=(h.cell (p:=(J w.heap.size 2 Y)) (by simp;omega)).trans (by simp[go_sem]);have d4:j.cell? (J (w.heap.size+1) 4 Y)=N (Z a0 d.actN z):=(h.cell (p:=(J (w.heap.size+1) 4 Y)) (by simp)).trans (by simp[go_sem]);have W:w.heap.size+1<j.heap.size:=by have:=h.size;simp at this;omega
   have l:=ae (f.out.trans (h.mono f.out.size));clear h h1 h2 f;cases hq:aF (nm1 f1) n1 d.name with
   | false =>
    obtain rfl:r=QC:=by rw[y.out];unfold ki;rw[rG hq];rfl
    clear g;go_wp2_with fail;go_quiet (fail);go_wp2;go_ret;exact⟨rfl,xT l.out _⟩
   | true =>
    rw[hq] at g;obtain⟨u,A⟩:i<n1/\((nm1 f1 i).toList == d.name.toList)=QC:=by simpa using g.symm
    have o:Hid (r=!cL (f1 i).act d.act (f1 i).actN d.actN):=by show _=_;rw[y.out];unfold ki;rw[uE C.out u A]
    obtain⟨b,off,rfl,m⟩:=QQ.out.resolve_left (by omega);obtain⟨e0,V,kc,e1,QG⟩:=(m.below l.out lr).2 i u;have Q1:=ae (show SlIns j V (f1 i).actN (f1 i).act from QG);have S:(i:Int)<n1:=by omega
    clear g A m y QQ QG;have QJ:=ae (fun q=>sd V (f1 i).actN kc (f1 i).act a0 d.actN z d.act (j.drewN q) (X.out i u) aq (Q1.out.below (xT br q) lr) ((HI.out.below l.out lr).below (xT (Qs j) q) lr));generalize cL (f1 i).act d.act (f1 i).actN d.actN=c at o QJ;go_wp2_with fail;go_quiet ((go_at_call 231;exact Calls.quiet_of (QJ.out _)));have B2:=ae (xT l.out nq);go_wp2;go_ret;exact⟨by simp[o.out],B2.out⟩
  ·have y:Hid (r=jB n0 f0 n1 f1 d.name):=by show _=_;rw[QO.out,a8 B,a8 QP]
   have hk1b:(d.kind == 1)=D:=by simpa using B
   have hk3b:(d.kind == 3)=D:=by simpa using QP
   clear QO;go_enter Tryz.func188,Tryz.ntmps188;go_wp2_with fail;refine(o8 s n0 t f0 k n1 x f1 d.name _ hn0 hn1 (H.out.below f.out lr) (QQ.out.below f.out lr) G.out C.out).mono ?_;rintro e j ⟨rfl,h⟩;have l:=ae (f.out.trans (h.mono f.out.size));have o:Hid ((aF (nm0 f0) n0 d.name || aF (nm1 f1) n1 d.name)=r):=y.out.symm;clear h;rw[o.out];go_wp2;go_ret;exact⟨rfl,l.out⟩
end Go.Proofs.YtkdimgejdocbbaaGreatDoor.Vp
