import Derived.Test.YtamacmnikdejeaaGreatDoorRH
import Derived.Laws.StructEq
set_option maxRecDepth 100000
set_option maxHeartbeats 4000000
open Go.Addr renaming mk->N
open Go.Value renaming slice->Y,string->U,int->J,bool->QC,agg->QG
open Option renaming none->Z,some->T
open Go.IntKind renaming i64->I
open Go renaming World->G
open Bool renaming false->QB,true->QD
open Go.Ending renaming returned->QF
namespace Go.Proofs.YtamacmnikdejeaaGreatDoor.Vp
open RowKit
theorem DX (x y:Ins)(w:G):(binOp .neq 146 (QG #[J I x.op,U x.s,J I x.n]) (QG #[J I y.op,U y.s,J I y.n])).run Tryz.prog w=.ok (QC (!lQ x y)) w:=by
 have g:Tryz.prog.underlying 146=T (.struct (Tryz.prog.fieldsOf 146)):=by kernel_rfl
 have f:Tryz.prog.stoodInHeld 146=QB:=by kernel_rfl
 rw[run_neq_struct,show(10000:Nat)=9999+1 from rfl,run_equalIn_agg w 9999 146 _ _ g f];simp only[Program.fieldsOf,Tryz.underlying146];go_simp;unfold lQ;by_cases h1:x.op=y.op<;>by_cases h2:x.s.toList=y.s.toList<;>by_cases b:x.n=y.n<;>simp[h1,h2,b]
theorem sK (b off n cap:Nat)(f:Nat->Ins)(x j o:Nat)(g:Nat->Ins)(w:G)(hn:n<=1048576)(u:RowIns w b off n f)(A:RowIns w x j n g):Calls Tryz.prog 119 #[Y (T (N b off Z)) n cap,Y (T (N x j Z)) n o] w fun e C=>e=QF (QC (dv f g n))/\∃ m,C=w.drewN m:=by
 have QR:=ae u;have B:=ae A;clear u A;go_enter Tryz.func119,Tryz.ntmps119;go_wp2;go_loopw [13] (fun i wr=>∃ k:Nat,k<=n/\i=J I k/\Hid (dv f g k=QD)/\Hid (∃ q,wr=w.drewN q)) (fun i _=>n - (intOf i).toNat);case atStart=>exact⟨0,by omega,rfl,rfl,0,rfl⟩
 case round =>
  obtain⟨k,hk,rfl,y,l⟩:=hrel;have z:Hid (Below w.heap.size w wr):=by obtain⟨q,s⟩:=l.out;rw[s];exact AT br q
  by_cases h:k<n
  ·obtain⟨c0,c1,c2⟩:=(QR.out.below z.out ly).2 k h
   obtain⟨H,D,E⟩:=(B.out.below z.out ly).2 k h;have hlt2:(k:Int)<n:=by omega
   have t:=DX (f k) (g k);go_wp2_with fail;go_quiet (fail);have p:Hid (∃ q,wr.drewN nq=w.drewN q):=by obtain⟨q,s⟩:=l.out;exact⟨q+nq,by rw[s,World.drewN_drewN]⟩
   clear c0 c1 c2 H D E t;generalize wr.drewN nq=W at p ⊢;cases hb:lQ (f k) (g k) with
   | true =>have r:=ae hb;clear hb;go_wp2;exact⟨⟨k+1,by omega,by go_num,by show dv f g (k+1)=QD;rw[dv,y.out,r.out];rfl,p.out⟩,by simp[intOf];omega⟩
   | false =>have r:=ae hb;clear hb;go_wp2;go_ret;exact⟨bo (ue h r.out).symm,p.out⟩
  ·obtain rfl:k=n:=by omega
   go_wp2;go_ret;exact⟨bo y.out.symm,l.out⟩
theorem lX (a:Option Addr)(cap:Nat)(f:Option Addr)(b:Nat)(w:G):Calls Tryz.prog 119 #[Y a 0 cap,Y f 0 b] w fun e g=>e=QF (QC QD)/\g=w:=by
 go_enter Tryz.func119,Tryz.ntmps119;go_wp2;go_loop [13] (fun i=>i=J I 0) (fun _=>0);case atStart=>rfl
 case round =>subst hrel;go_wp2;go_ret;exact⟨rfl,rfl⟩
theorem sL (a:Option Addr)(n cap:Nat)(f:Option Addr)(m b:Nat)(w:G)(h:(n:Int)≠m):Calls Tryz.prog 119 #[Y a n cap,Y f m b] w fun e g=>e=QF (QC QB)/\g=w:=by
 have h2:((n:Int) == (m:Int))=QB:=by simpa using h
 go_enter Tryz.func119,Tryz.ntmps119;go_wp2;go_ret;exact⟨rfl,rfl⟩
theorem sM (a:Option Addr)(n cap:Nat)(f:Nat->Ins)(j:Option Addr)(m i:Nat)(g:Nat->Ins)(w:G)(hn:n<=1048576)(hm:m<=1048576)(o:SlIns w a n f)(r:SlIns w j m g):Calls Tryz.prog 119 #[Y a n cap,Y j m i] w fun e l=>e=QF (QC (fg f g n m))/\∃ m,l=w.drewN m:=by
 by_cases h:n=m
 ·subst h
  have s:fg f g n n=dv f g n:=by simp[fg]
  rw[s];rcases o with rfl | ⟨b,off,rfl,o⟩
  ·exact(lX a cap j i w).mono fun e l ⟨p,q⟩=>⟨p,0,by rw[q];rfl⟩
  ·rcases r with rfl | ⟨u,t,rfl,r⟩
   ·exact(lX _ cap j i w).mono fun e l ⟨p,q⟩=>⟨p,0,by rw[q];rfl⟩
   ·exact sK b off n cap f u t i g w hn o r
 ·have s:fg f g n m=QB:=by simp[fg,h]
  rw[s];exact(sL a n cap j m i w (by omega)).mono fun e l ⟨p,q⟩=>⟨p,0,by rw[q];rfl⟩
theorem zV (bd L n cap:Nat)(l:Option Addr)(n0 x:Nat)(f0:Nat->Source)(s:Option Addr)(n1 y:Nat)(f1:Nat->Target)(d:ah)(a0:Option Addr)(A:Nat)(a1:Option Addr)(K:Nat)(w:G)(hn0:(n0:Int)<=1048576)(hn1:(n1:Int)<=1048576)(P:SlSource w l n0 f0)(QN:SlTarget w s n1 f1)(O:aI (nm0 f0) n0=QD)(QM:aI (nm1 f1) n1=QD)(X:SlIns w a0 d.actN d.act)(QK:d.actN<=1048576)(M:∀ i,i<n1->bk (f1 i)):Calls Tryz.prog 70 #[QG #[Y (T (N bd L Z)) n cap,Y l n0 x,Y s n1 y],QG #[U d.name,J I d.kind,J I d.code,U d.text,Y a0 d.actN A,Y a1 d.linksN K]] w fun e w'=>e=QF (QC (jM n0 f0 n1 f1 d))/\Below w.heap.size w w':=by
 obtain⟨r,R⟩:∃ r,r=jM n0 f0 n1 f1 d:=⟨_,rfl⟩
 rw[<-R];have QO:=ae (show r=if d.kind=1 then !pL n0 f0 d.name d.text else if d.kind=3 then !nN n1 f1 d.name d.actN d.act else nM n0 f0 n1 f1 d.name from R);clear R;have g:=ae (((q9 w).alloc ly (.cells #[Y (T (N bd L Z)) n cap,Y l n0 x,Y s n1 y] 77)).alloc (by simp) (.cells #[U d.name,J I d.kind,J I d.code,U d.text,Y a0 d.actN A,Y a1 d.linksN K] 46));have E:=ae P;have QR:=ae QN;have QP:=ae O;have D:=ae QM;have HI:=ae X;have QJ:=ae M;clear P QN O QM X M;by_cases B:d.kind=1
 ·have z:Hid (r=!pL n0 f0 d.name d.text):=by show _=_;rw[QO.out,gM B]
  clear QO;rw[B] at g ⊢;go_enter Tryz.func70,Tryz.ntmps70;go_wp2_with fail;refine(jY l n0 x s n1 y f0 d.name _ hn0 (E.out.below g.out ly) QP.out).mono ?_;rintro e j ⟨i,rfl,hi,h1,h2,f⟩;have h:=jW QP.out hi h1 h2;have g1:j.cell? (N w.heap.size 1 Z)=T (Y l n0 x):=(f.cell (p:=(N w.heap.size 1 Z)) (by simp;omega)).trans (by simp[go_sem]);have d3:j.cell? (N (w.heap.size+1) 3 Z)=T (U d.text):=(f.cell (p:=(N (w.heap.size+1) 3 Z)) (by simp)).trans (by simp[go_sem]);have W:w.heap.size+1<j.heap.size:=by have:=f.size;simp at this;omega
  have t:=ae (g.out.trans (f.mono g.out.size));clear f h1 h2 g;cases hq:aG (nm0 f0) n0 d.name with
  | false =>
   obtain rfl:r=QD:=by rw[z.out];unfold pL;rw[ss hq];rfl
   clear h;go_wp2_with fail;go_quiet (fail);go_wp2;go_ret;exact⟨rfl,AT t.out _⟩
  | true =>
   rw[hq] at h;obtain⟨u,C⟩:i<n0/\((nm0 f0 i).toList == d.name.toList)=QD:=by simpa using h.symm
   have o:Hid (r=!((f0 i).text.toList == d.text.toList)):=by show _=_;rw[z.out];unfold pL;rw[uW QP.out u C]
   obtain⟨b,off,rfl,m⟩:=E.out.resolve_left (by omega);obtain⟨e0,e1⟩:=(m.below t.out ly).2 i u;have S:(i:Int)<n0:=by omega
   clear h C m z E;cases ht:((f0 i).text.toList == d.text.toList) with
   | true =>
    obtain rfl:r=QB:=by rw[o.out,ht];rfl
    go_wp2_with fail;go_quiet (fail);go_wp2;go_ret;exact⟨rfl,AT t.out _⟩
   | false =>
    obtain rfl:r=QD:=by rw[o.out,ht];rfl
    go_wp2_with fail;go_quiet (fail);go_wp2;go_ret;exact⟨rfl,AT t.out _⟩
 ·by_cases H:d.kind=3
  ·have z:Hid (r=!nN n1 f1 d.name d.actN d.act):=by show _=_;rw[QO.out,cM B,gM H]
   clear QO;rw[H] at g ⊢;go_enter Tryz.func70,Tryz.ntmps70;go_wp2_with fail;refine(jZ l n0 x s n1 y f1 d.name _ hn1 (QR.out.below g.out ly) D.out).mono ?_;rintro e j ⟨i,rfl,hi,h1,h2,f⟩;have h:=jW D.out hi h1 h2;have g2:j.cell? (N w.heap.size 2 Z)=T (Y s n1 y):=(f.cell (p:=(N w.heap.size 2 Z)) (by simp;omega)).trans (by simp[go_sem]);have d4:j.cell? (N (w.heap.size+1) 4 Z)=T (Y a0 d.actN A):=(f.cell (p:=(N (w.heap.size+1) 4 Z)) (by simp)).trans (by simp[go_sem]);have W:w.heap.size+1<j.heap.size:=by have:=f.size;simp at this;omega
   have t:=ae (g.out.trans (f.mono g.out.size));clear f h1 h2 g;cases hq:aG (nm1 f1) n1 d.name with
   | false =>
    obtain rfl:r=QD:=by rw[z.out];unfold nN;rw[ss hq];rfl
    clear h;go_wp2_with fail;go_quiet (fail);go_wp2;go_ret;exact⟨rfl,AT t.out _⟩
   | true =>
    rw[hq] at h;obtain⟨u,C⟩:i<n1/\((nm1 f1 i).toList == d.name.toList)=QD:=by simpa using h.symm
    have o:Hid (r=!fg (f1 i).act d.act (f1 i).actN d.actN):=by show _=_;rw[z.out];unfold nN;rw[uW D.out u C]
    obtain⟨b,off,rfl,m⟩:=QR.out.resolve_left (by omega);obtain⟨e0,QL,kc,e1,V⟩:=(m.below t.out ly).2 i u;have Q1:=ae (show SlIns j QL (f1 i).actN (f1 i).act from V);have S:(i:Int)<n1:=by omega
    clear h C m z QR V;have QH:=ae (fun q=>sM QL (f1 i).actN kc (f1 i).act a0 d.actN A d.act (j.drewN q) (QJ.out i u) QK (Q1.out.below (AT br q) ly) ((HI.out.below t.out ly).below (AT (q9 j) q) ly));generalize fg (f1 i).act d.act (f1 i).actN d.actN=c at o QH;go_wp2_with fail;go_quiet ((go_at_call 119;exact Calls.quiet_of (QH.out _)));have B2:=ae (AT t.out nq);go_wp2;go_ret;exact⟨by simp[o.out],B2.out⟩
  ·have z:Hid (r=nM n0 f0 n1 f1 d.name):=by show _=_;rw[QO.out,cM B,cM H]
   have hk1b:(d.kind == 1)=QB:=by simpa using B
   have hk3b:(d.kind == 3)=QB:=by simpa using H
   clear QO;go_enter Tryz.func70,Tryz.ntmps70;go_wp2_with fail;refine(uZ l n0 x f0 s n1 y f1 d.name _ hn0 hn1 (E.out.below g.out ly) (QR.out.below g.out ly) QP.out D.out).mono ?_;rintro e j ⟨rfl,f⟩;have t:=ae (g.out.trans (f.mono g.out.size));have o:Hid ((aG (nm0 f0) n0 d.name || aG (nm1 f1) n1 d.name)=r):=z.out.symm;clear f;rw[o.out];go_wp2;go_ret;exact⟨rfl,t.out⟩
end Go.Proofs.YtamacmnikdejeaaGreatDoor.Vp
