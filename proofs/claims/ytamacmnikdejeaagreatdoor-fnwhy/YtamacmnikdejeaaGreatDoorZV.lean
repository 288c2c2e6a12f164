import Derived.Test.YtamacmnikdejeaaGreatDoorZS
import Derived.Test.YtamacmnikdejeaaGreatDoorZG
import Derived.Deep.RegionHeld3
set_option maxRecDepth 100000
set_option maxHeartbeats 4000000
open Go.Addr renaming mk->T
open Go.Value renaming slice->Y,string->U,int->I,agg->QV
open Option renaming none->Z,some->N
open Go.Obj renaming cells->Q
open Go.IntKind renaming i64->J
open Go renaming World->H,Value->QS
open Bool renaming false->QQ,true->QR
open Go.Ending renaming returned->QU
namespace Go.Proofs.YtamacmnikdejeaaGreatDoor.Vp
open RowKit
def fV (k:Int):Bool:=k == 1 || k == 3 || k == 4
theorem nR (k:Int)(f:ByteArray)(a:Option Addr)(m c:Nat)(w:H):Calls Tryz.prog 102 #[QV #[I J k,U f,Y a m c]] w fun e i=>e=QU (.bool (fV k))/\Below w.heap.size w i:=by
 have h:=ae ((q9 w).alloc ly (Q #[I J k,U f,Y a m c] 111));have k0:(w.alloc (Q #[I J k,U f,Y a m c] 111)).cell? (T w.heap.size 0 Z)=N (I J k):=by simp
 obtain⟨r,b⟩:∃ r,r=fV k:=⟨_,rfl⟩
 rw[<-b];have g:=ae b;clear b;go_enter Tryz.func102,Tryz.ntmps102;cases h1:(k == 1) with
 | true =>
  obtain rfl:r=QR:=by rw[g.out,fV,h1];rfl
  go_wp2;go_ret;exact⟨rfl,h.out⟩
 | false =>
  cases h3:(k == 3) with
  | true =>
   obtain rfl:r=QR:=by rw[g.out,fV,h1,h3];rfl
   go_wp2;go_ret;exact⟨rfl,h.out⟩
  | false =>
   obtain rfl:r=(k == 4):=by rw[g.out,fV,h1,h3];rfl
   go_wp2;go_ret;exact⟨rfl,h.out⟩
structure Thr (w:H)(b:Nat)(v0 v1 v2:QS):Prop where
 lt:b<w.heap.size
 c0:w.cell? (T b 0 Z)=N v0
 c1:w.cell? (T b 1 Z)=N v1
 c2:w.cell? (T b 2 Z)=N v2
theorem Thr.below {w g:H}{b B:Nat}{i j f:QS}(h:Thr w b i j f)(hb:Below B w g)(c:b<B):Thr g b i j f :=
 ⟨lj h.lt hb.size,(hb.cell (p:=(T b 0 Z)) c).trans h.c0,(hb.cell (p:=(T b 1 Z)) c).trans h.c1,(hb.cell (p:=(T b 2 Z)) c).trans h.c2⟩
theorem qt (w:H)(c f b:QS)(t:TypeId):Thr (w.alloc (Q #[c,f,b] t)) w.heap.size c f b:=⟨by simp,by simp,by simp,by simp⟩
theorem El (w:H)(f c b u0 u1 u2:QS)(t:TypeId):Thr ((w.alloc (Q #[f,c,b] t)).alloc (Q #[u0,u1,u2] t)) w.heap.size f c b/\Thr ((w.alloc (Q #[f,c,b] t)).alloc (Q #[u0,u1,u2] t)) (w.heap.size+1) u0 u1 u2:=by
 have hz:(w.alloc (Q #[f,c,b] t)).heap.size=w.heap.size+1:=by simp
 refine⟨(qt w f c b t).below ((eL (w.heap.size+1) _).alloc (by omega) _) (j2 _),?_⟩;have:=qt (w.alloc (Q #[f,c,b] t)) u0 u1 u2 t;rw[hz] at this;exact this
theorem uT (x y:Tl)(a:Option Addr)(c:Nat)(h:Option Addr)(j:Nat)(w:H)(hx:x.actN<=1048576)(hy:y.actN<=1048576)(O:SlIns w a x.actN x.act)(QY:SlIns w h y.actN y.act):Calls Tryz.prog 55 #[QV #[I J x.kind,U x.text,Y a x.actN c],QV #[I J y.kind,U y.text,Y h y.actN j]] w fun e w'=>e=QU (.bool (cy x y))/\Below w.heap.size w w':=by
 have F:=ae (((q9 w).alloc ly (Q #[I J x.kind,U x.text,Y a x.actN c] 111)).alloc (by simp) (Q #[I J y.kind,U y.text,Y h y.actN j] 111));have TT:=El w (I J x.kind) (U x.text) (Y a x.actN c) (I J y.kind) (U y.text) (Y h y.actN j) 111;have t:=ae TT.1;have u:=ae TT.2;have HF:=ae O;have Q0:=ae QY;clear O QY TT;obtain⟨r,L⟩:∃ r,r=cy x y:=⟨_,rfl⟩
 rw[<-L];have P:=ae L;clear L;go_enter Tryz.func55,Tryz.ntmps55;go_wp2_with fail;generalize (w.alloc (Q #[I J x.kind,U x.text,Y a x.actN c] 111)).alloc (Q #[I J y.kind,U y.text,Y h y.actN j] 111)=W at F t u ⊢;have n:=t.out.lt;have l:=u.out.lt;have q:Hid (∀ V,Below W.heap.size W V->V.cell? (T w.heap.size 0 Z)=N (I J x.kind)/\V.cell? (T w.heap.size 1 Z)=N (U x.text)/\V.cell? (T w.heap.size 2 Z)=N (Y a x.actN c)/\V.cell? (T (w.heap.size+1) 0 Z)=N (I J y.kind)/\V.cell? (T (w.heap.size+1) 1 Z)=N (U y.text)/\V.cell? (T (w.heap.size+1) 2 Z)=N (Y h y.actN j)):=fun V s=>⟨(t.out.below s n).c0,(t.out.below s n).c1,(t.out.below s n).c2,(u.out.below s l).c0,(u.out.below s l).c1,(u.out.below s l).c2⟩
 go_region_held3 (fun V=>V.cell? (T w.heap.size 0 Z)=N (I J x.kind)/\V.cell? (T w.heap.size 1 Z)=N (U x.text)/\V.cell? (T w.heap.size 2 Z)=N (Y a x.actN c)/\V.cell? (T (w.heap.size+1) 0 Z)=N (I J y.kind)/\V.cell? (T (w.heap.size+1) 1 Z)=N (U y.text)/\V.cell? (T (w.heap.size+1) 2 Z)=N (Y h y.actN j)) (first | exact q.out _ br | exact q.out _ br.drew | exact q.out _ G.out | exact q.out _ C.out)
  (first
  | (go_at_call 102;refine(nR _ _ _ _ _ _).mono ?_;rintro e K ⟨rfl,f⟩;first | (have C:Hid (Below W.heap.size W K):=G.out.trans (f.mono G.out.size);clear f) | (have G:Hid (Below W.heap.size W K):=⟨f.os,f.tape,f.output,f.size,f.block⟩;clear f)))
 obtain⟨c0,c1,c2,M,QX,S⟩:=q.out K C.out;have g:=ae (F.out.trans (C.out.mono F.out.size));have QW:=ae (HF.out.below g.out ly);have R:=ae (Q0.out.below g.out ly);have i:Hid (r=if (fV x.kind != fV y.kind)=QR then QQ else if (decide (3<x.kind) || decide (3<y.kind) || !fV x.kind)=QR then QR else x.kind == y.kind && x.text.toList == y.text.toList && bu x.act y.act x.actN y.actN):=P.out;clear P q G C t u F HF Q0 n l;generalize Q2:(fV x.kind)=tx at i ⊢;generalize (fV y.kind)=ty at i ⊢;have ZB:=ae Q2;clear Q2;by_cases A:tx=ty
 ·subst A
  have o:Hid (r=if (decide (3<x.kind) || decide (3<y.kind) || !tx)=QR then QR else x.kind == y.kind && x.text.toList == y.text.toList && bu x.act y.act x.actN y.actN):=by show r=_;rw[i.out];simp
  clear i;have Q9:(tx == tx)=QR:=by cases tx<;>rfl
  by_cases X:(3:Int)<x.kind
  ·obtain rfl:r=QR:=by rw[o.out];simp[X]
   go_simp;go_wp2;go_ret;exact⟨rfl,g.out⟩
  ·by_cases QZ:(3:Int)<y.kind
   ·obtain rfl:r=QR:=by rw[o.out];simp[QZ]
    go_simp;go_wp2;go_ret;exact⟨rfl,g.out⟩
   ·have B:Hid (r=if tx=QQ then QR else x.kind == y.kind && x.text.toList == y.text.toList && bu x.act y.act x.actN y.actN):=by show r=_;rw[o.out];simp[X,QZ]
    clear o;go_simp;go_wp2_with fail;refine(nR _ _ _ _ _ _).mono ?_;rintro e w5 ⟨rfl,b⟩;rw[ZB.out];have E:=OD _ _ c0;have D:=OD _ _ M;have z:=ae (g.out.trans (b.mono g.out.size));have F5:=ae (QW.out.below b ly);have G5:=ae (R.out.below b ly);have e0:=(b.cell (p:=(T w.heap.size 0 Z)) E).trans c0;have e1:=(b.cell (p:=(T w.heap.size 1 Z)) E).trans c1;have e2:=(b.cell (p:=(T w.heap.size 2 Z)) E).trans c2;have f0:=(b.cell (p:=(T (w.heap.size+1) 0 Z)) D).trans M;have f1:=(b.cell (p:=(T (w.heap.size+1) 1 Z)) D).trans QX;have f2:=(b.cell (p:=(T (w.heap.size+1) 2 Z)) D).trans S;clear b c0 c1 c2 M QX S E D ZB Q9 g QW R;cases tx with
    | false =>
     obtain rfl:r=QR:=by rw[B.out,gA rfl]
     go_wp2;go_ret;exact⟨rfl,z.out⟩
    | true =>
     have m:Hid (r=(x.kind == y.kind && x.text.toList == y.text.toList && bu x.act y.act x.actN y.actN)):=by show r=_;rw[B.out,eI (by simp)]
     clear B;cases hk:(x.kind == y.kind) with
     | false =>
      obtain rfl:r=QQ:=by rw[m.out,hk];rfl
      go_wp2;go_ret;exact⟨rfl,z.out⟩
     | true =>
      cases ht:(x.text.toList == y.text.toList) with
      | false =>
       obtain rfl:r=QQ:=by rw[m.out,hk,ht];rfl
       go_wp2;go_ret;exact⟨rfl,z.out⟩
      | true =>
       obtain rfl:r=bu x.act y.act x.actN y.actN:=by rw[m.out,hk,ht];rfl
       clear m;go_wp2_with fail;refine(xp a x.actN c x.act h y.actN j y.act _ hx hy F5.out G5.out).mono ?_;rintro e w6 ⟨rfl,ZA⟩;have B6:=ae (z.out.trans (ZA.mono z.out.size));clear ZA;go_wp2;go_ret;exact⟨rfl,B6.out⟩
 ·obtain rfl:r=QQ:=by rw[i.out];simp[A]
  have Q9:(tx == ty)=QQ:=by simpa using A
  go_simp;go_wp2;go_ret;exact⟨rfl,g.out⟩
end Go.Proofs.YtamacmnikdejeaaGreatDoor.Vp
