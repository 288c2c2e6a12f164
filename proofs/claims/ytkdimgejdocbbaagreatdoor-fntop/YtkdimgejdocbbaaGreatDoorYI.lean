import Derived.Test.YtkdimgejdocbbaaGreatDoorYG
import Derived.Laws.StructEq
set_option maxRecDepth 100000
set_option maxHeartbeats 4000000
open Go.Addr renaming mk->J
open Go.Value renaming slice->Y,string->U,int->N,bool->QA,agg->QE
open Option renaming none->Z,some->Q
open Go.IntKind renaming i64->I
open Go renaming World->E
open Bool renaming false->D,true->QC
open Go.Ending renaming returned->QD
namespace Go.Proofs.YtkdimgejdocbbaaGreatDoor.Vp
open RowKit
theorem ya (x y:Ins)(w:E):(binOp .neq 188 (QE #[N I x.op,U x.s,N I x.n]) (QE #[N I y.op,U y.s,N I y.n])).run Tryz.prog w=.ok (QA (!j7 x y)) w:=by
 have b:Tryz.prog.underlying 188=Q (.struct (Tryz.prog.fieldsOf 188)):=by kernel_rfl
 have d:Tryz.prog.stoodInHeld 188=D:=by kernel_rfl
 rw[run_neq_struct,show(10000:Nat)=9999+1 from rfl,run_equalIn_agg w 9999 188 _ _ b d];simp only[Program.fieldsOf,Tryz.underlying188];go_simp;unfold j7;by_cases h1:x.op=y.op<;>by_cases h2:x.s.toList=y.s.toList<;>by_cases f:x.n=y.n<;>simp[h1,h2,f]
theorem r8 (b off n t:Nat)(f:Nat->Ins)(y h l:Nat)(g:Nat->Ins)(w:E)(hn:n<=1048576)(u:RowIns w b off n f)(z:RowIns w y h n g):Calls Tryz.prog 231 #[Y (Q (J b off Z)) n t,Y (Q (J y h Z)) n l] w fun e QQ=>e=QD (QA (cU f g n))/\∃ m,QQ=w.drewN m:=by
 have B:=ae u;have H:=ae z;clear u z;go_enter Tryz.func231,Tryz.ntmps231;go_wp2;go_loopw [13] (fun i wr=>∃ k:Nat,k<=n/\i=N I k/\Hid (cU f g k=QC)/\Hid (∃ q,wr=w.drewN q)) (fun i _=>n - (intOf i).toNat);case atStart=>exact⟨0,by omega,rfl,rfl,0,rfl⟩
 case round =>
  obtain⟨k,hk,rfl,s,p⟩:=hrel;have A:Hid (Below w.heap.size w wr):=by obtain⟨q,o⟩:=p.out;rw[o];exact wC br q
  by_cases d:k<n
  ·obtain⟨c0,c1,c2⟩:=(B.out.below A.out lr).2 k d
   obtain⟨QP,C,G⟩:=(H.out.below A.out lr).2 k d;have hlt2:(k:Int)<n:=by omega
   have x:=ya (f k) (g k);go_wp2_with fail;go_quiet (fail);have r:Hid (∃ q,wr.drewN nq=w.drewN q):=by obtain⟨q,o⟩:=p.out;exact⟨q+nq,by rw[o,World.drewN_drewN]⟩
   clear c0 c1 c2 QP C G x;generalize wr.drewN nq=W at r ⊢;cases hb:j7 (f k) (g k) with
   | true =>have j:=ae hb;clear hb;go_wp2;exact⟨⟨k+1,by omega,by go_num,by show cU f g (k+1)=QC;rw[cU,s.out,j.out];rfl,r.out⟩,by simp[intOf];omega⟩
   | false =>have j:=ae hb;clear hb;go_wp2;go_ret;exact⟨aW (mH d j.out).symm,r.out⟩
  ·obtain rfl:k=n:=by omega
   go_wp2;go_ret;exact⟨aW s.out.symm,p.out⟩
theorem lS (a:Option Addr)(d:Nat)(f:Option Addr)(b:Nat)(w:E):Calls Tryz.prog 231 #[Y a 0 d,Y f 0 b] w fun e g=>e=QD (QA QC)/\g=w:=by
 go_enter Tryz.func231,Tryz.ntmps231;go_wp2;go_loop [13] (fun i=>i=N I 0) (fun _=>0);case atStart=>rfl
 case round =>subst hrel;go_wp2;go_ret;exact⟨rfl,rfl⟩
theorem r9 (a:Option Addr)(n d:Nat)(f:Option Addr)(m b:Nat)(w:E)(h:(n:Int)≠m):Calls Tryz.prog 231 #[Y a n d,Y f m b] w fun e g=>e=QD (QA D)/\g=w:=by
 have h2:((n:Int) == (m:Int))=D:=by simpa using h
 go_enter Tryz.func231,Tryz.ntmps231;go_wp2;go_ret;exact⟨rfl,rfl⟩
theorem sd (a:Option Addr)(n i:Nat)(f:Nat->Ins)(j:Option Addr)(m d:Nat)(g:Nat->Ins)(w:E)(u:n<=1048576)(hm:m<=1048576)(r:SlIns w a n f)(o:SlIns w j m g):Calls Tryz.prog 231 #[Y a n i,Y j m d] w fun e k=>e=QD (QA (cL f g n m))/\∃ m,k=w.drewN m:=by
 by_cases h:n=m
 ·subst h
  have s:cL f g n n=cU f g n:=by simp[cL]
  rw[s];rcases r with rfl | ⟨b,off,rfl,r⟩
  ·exact(lS a i j d w).mono fun e k ⟨p,q⟩=>⟨p,0,by rw[q];rfl⟩
  ·rcases o with rfl | ⟨t,l,rfl,o⟩
   ·exact(lS _ i j d w).mono fun e k ⟨p,q⟩=>⟨p,0,by rw[q];rfl⟩
   ·exact r8 b off n i f t l d g w u r o
 ·have s:cL f g n m=D:=by simp[cL,h]
  rw[s];exact(r9 a n i j m d w (by omega)).mono fun e k ⟨p,q⟩=>⟨p,0,by rw[q];rfl⟩
theorem Ac (QJ QN n L:Nat)(o:Option Addr)(n0 x:Nat)(f0:Nat->Source)(l:Option Addr)(n1 u:Nat)(f1:Nat->Target)(d:aj)(a0:Option Addr)(y:Nat)(a1:Option Addr)(K:Nat)(w:E)(hn0:(n0:Int)<=1048576)(hn1:(n1:Int)<=1048576)(O:SlSource w o n0 f0)(P:SlTarget w l n1 f1)(M:aE (nm0 f0) n0=QC)(QM:aE (nm1 f1) n1=QC)(X:SlIns w a0 d.actN d.act)(aq:d.actN<=1048576)(QL:∀ i,i<n1->aS (f1 i)):Calls Tryz.prog 188 #[QE #[Y (Q (J QJ QN Z)) n L,Y o n0 x,Y l n1 u],QE #[U d.name,N I d.kind,N I d.code,U d.text,Y a0 d.actN y,Y a1 d.linksN K]] w fun e w'=>e=QD (QA (iU n0 f0 n1 f1 d))/\Below w.heap.size w w':=by
 obtain⟨r,R⟩:∃ r,r=iU n0 f0 n1 f1 d:=⟨_,rfl⟩
 rw[<-R];have QO:=ae (show r=if d.kind=1 then !lN n0 f0 d.name d.text else if d.kind=3 then !ki n1 f1 d.name d.actN d.act else jB n0 f0 n1 f1 d.name from R);clear R;have h:=ae (((Qs w).alloc lr (.cells #[Y (Q (J QJ QN Z)) n L,Y o n0 x,Y l n1 u] 165)).alloc (by simp) (.cells #[U d.name,N I d.kind,N I d.code,U d.text,Y a0 d.actN y,Y a1 d.linksN K] 58));have C:=ae O;have H:=ae P;have QP:=ae M;have QQ:=ae QM;have HI:=ae X;have QK:=ae QL;clear O P M QM X QL;by_cases B:d.kind=1
 ·have z:Hid (r=!lN n0 f0 d.name d.text):=by show _=_;rw[QO.out,eT B]
  clear QO;rw[B] at h ⊢;go_enter Tryz.func188,Tryz.ntmps188;go_wp2_with fail;refine(eA o n0 x l n1 u f0 d.name _ hn0 (C.out.below h.out lr) QP.out).mono ?_;rintro e j ⟨i,rfl,hi,h1,h2,g⟩;have f:=iK QP.out hi h1 h2;have g1:j.cell? (J w.heap.size 1 Z)=Q (Y o n0 x):=(g.cell (p:=(J w.heap.size 1 Z)) (by simp;omega)).trans (by simp[go_sem]);have d3:j.cell? (J (w.heap.size+1) 3 Z)=Q (U d.text):=(g.cell (p:=(J (w.heap.size+1) 3 Z)) (by simp)).trans (by simp[go_sem]);have QH:w.heap.size+1<j.heap.size:=by have:=g.size;simp at this;omega
  have s:=ae (h.out.trans (g.mono h.out.size));clear g h1 h2 h;cases hq:aF (nm0 f0) n0 d.name with
  | false =>
   obtain rfl:r=QC:=by rw[z.out];unfold lN;rw[rG hq];rfl
   clear f;go_wp2_with fail;go_quiet (fail);go_wp2;go_ret;exact⟨rfl,wC s.out _⟩
  | true =>
   rw[hq] at f;obtain⟨t,A⟩:i<n0/\((nm0 f0 i).toList == d.name.toList)=QC:=by simpa using f.symm
   have k:Hid (r=!((f0 i).text.toList == d.text.toList)):=by show _=_;rw[z.out];unfold lN;rw[uE QP.out t A]
   obtain⟨b,off,rfl,m⟩:=C.out.resolve_left (by omega);obtain⟨e0,e1⟩:=(m.below s.out lr).2 i t;have S:(i:Int)<n0:=by omega
   clear f A m z C;cases ht:((f0 i).text.toList == d.text.toList) with
   | true =>
    obtain rfl:r=D:=by rw[k.out,ht];rfl
    go_wp2_with fail;go_quiet (fail);go_wp2;go_ret;exact⟨rfl,wC s.out _⟩
   | false =>
    obtain rfl:r=QC:=by rw[k.out,ht];rfl
    go_wp2_with fail;go_quiet (fail);go_wp2;go_ret;exact⟨rfl,wC s.out _⟩
 ·by_cases G:d.kind=3
  ·have z:Hid (r=!ki n1 f1 d.name d.actN d.act):=by show _=_;rw[QO.out,a8 B,eT G]
   clear QO;rw[G] at h ⊢;go_enter Tryz.func188,Tryz.ntmps188;go_wp2_with fail;refine(fy o n0 x l n1 u f1 d.name _ hn1 (H.out.below h.out lr) QQ.out).mono ?_;rintro e j ⟨i,rfl,hi,h1,h2,g⟩;have f:=iK QQ.out hi h1 h2;have g2:j.cell? (J w.heap.size 2 Z)=Q (Y l n1 u):=(g.cell (p:=(J w.heap.size 2 Z)) (by simp;omega)).trans (by simp[go_sem]);have d4:j.cell? (J (w.heap.size+1) 4 Z)=Q (Y a0 d.actN y):=(g.cell (p:=(J (w.heap.size+1) 4 Z)) (by simp)).trans (by simp[go_sem]);have QH:w.heap.size+1<j.heap.size:=by have:=g.size;simp at this;omega
   have s:=ae (h.out.trans (g.mono h.out.size));clear g h1 h2 h;cases hq:aF (nm1 f1) n1 d.name with
   | false =>
    obtain rfl:r=QC:=by rw[z.out];unfold ki;rw[rG hq];rfl
    clear f;go_wp2_with fail;go_quiet (fail);go_wp2;go_ret;exact⟨rfl,wC s.out _⟩
   | true =>
    rw[hq] at f;obtain⟨t,A⟩:i<n1/\((nm1 f1 i).toList == d.name.toList)=QC:=by simpa using f.symm
    have k:Hid (r=!cL (f1 i).act d.act (f1 i).actN d.actN):=by show _=_;rw[z.out];unfold ki;rw[uE QQ.out t A]
    obtain⟨b,off,rfl,m⟩:=H.out.resolve_left (by omega);obtain⟨e0,V,kc,e1,W⟩:=(m.below s.out lr).2 i t;have Q1:=ae (show SlIns j V (f1 i).actN (f1 i).act from W);have S:(i:Int)<n1:=by omega
    clear f A m z H W;have QG:=ae (fun q=>sd V (f1 i).actN kc (f1 i).act a0 d.actN y d.act (j.drewN q) (QK.out i t) aq (Q1.out.below (wC br q) lr) ((HI.out.below s.out lr).below (wC (Qs j) q) lr));generalize cL (f1 i).act d.act (f1 i).actN d.actN=c at k QG;go_wp2_with fail;go_quiet ((go_at_call 231;exact Calls.quiet_of (QG.out _)));have B2:=ae (wC s.out nq);go_wp2;go_ret;exact⟨by simp[k.out],B2.out⟩
  ·have z:Hid (r=jB n0 f0 n1 f1 d.name):=by show _=_;rw[QO.out,a8 B,a8 G]
   have hk1b:(d.kind == 1)=D:=by simpa using B
   have hk3b:(d.kind == 3)=D:=by simpa using G
   clear QO;go_enter Tryz.func188,Tryz.ntmps188;go_wp2_with fail;refine(o8 o n0 x f0 l n1 u f1 d.name _ hn0 hn1 (C.out.below h.out lr) (H.out.below h.out lr) QP.out QQ.out).mono ?_;rintro e j ⟨rfl,g⟩;have s:=ae (h.out.trans (g.mono h.out.size));have k:Hid ((aF (nm0 f0) n0 d.name || aF (nm1 f1) n1 d.name)=r):=z.out.symm;clear g;rw[k.out];go_wp2;go_ret;exact⟨rfl,s.out⟩
end Go.Proofs.YtkdimgejdocbbaaGreatDoor.Vp
