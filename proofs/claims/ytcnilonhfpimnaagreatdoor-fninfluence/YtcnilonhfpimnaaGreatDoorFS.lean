import Derived.Test.YtcnilonhfpimnaaGreatDoorFQ
import Derived.Deep.RegionHeld
set_option linter.all false
set_option maxRecDepth 100000
set_option maxHeartbeats 8000000
open Go renaming Addr.mk->T,Value.slice->Z,Value.string->U,Value.int->J,Value.agg->ZJ,Obj.cells->N,IntKind.i64->I,World->E,Value->ZB,Ending.returned->ZI,World.heap->z,World.alloc->ZU,World.cell?->ZV
open Option renaming none->Y,some->Q
open Bool renaming false->ZA,true->ZH
open Array renaming size->A
open List renaming length->B
namespace Go.Proofs.YtcnilonhfpimnaaGreatDoor.Vp
section
variable {P:Program}{ops:Array Oper}{ZO:Exit->Act->E->Prop}{md:Region.Mode}{S:E->Prop}
def Bq {i:Nat}{b:Oper}{v:ZB}{k:Nat}{l:Array Bool}{a:Act}{w:E}(hi:ops.toList[i]?=Q b)(j:Region.noSelect ops=ZH)(g:Region.free md ops l i=ZH)(o:(Region.ready md ops l).contains i=ZH)
  (p:∀c a w,ZO (.panic c) (a.put b.dst v) w->ZO (.panic c) a w) (m:Region.wanted b (yielded ops a.tmps)=ZH) (n:∀w,S w->(execOp a.eval b).run P w=.ok (.value v) w) (f:S w)
  (h:wpAnyH P md ops ZO S k (l.setIfInBounds i ZH) (a.put b.dst v) w):wpAnyH P md ops ZO S (k+1) l a w:=by
 rw[NT] at hi;exact wpAnyH_take hi j g o p (.inl ⟨m,λw f=>n w f⟩) f h
def nxS:List Bool->Nat->Option Nat
 |[],_=>Y
 |true::l,j=>nxS l (j+1)
 |false::_,j=>Q j
def aN (j:Nat){i:Nat}{b:Oper}{v:ZB}{k:Nat}{l:Array Bool}{a:Act}{w:E}(_:nxS (l.toList.drop j) j=Q i)(hi:ops.toList[i]?=Q b)(f:(Region.noSelect ops && Region.free md ops l i && (Region.ready md ops l).contains i)=ZH)
  (o:∀c a w,ZO (.panic c) (a.put b.dst v) w->ZO (.panic c) a w) (g:Region.wanted b (yielded ops a.tmps)=ZH) (m:∀w,S w->(execOp a.eval b).run P w=.ok (.value v) w) (n:S w)
  (h:wpAnyH P md ops ZO S k (l.setIfInBounds i ZH) (a.put b.dst v) w):wpAnyH P md ops ZO S (k+1) l a w:=by
 simp only[j6] at f;exact Bq hi f.1.1 f.1.2 f.2 o g m n h
def aL {i:Nat}{o:Oper}{k:Nat}{l:Array Bool}{a:Act}{w:E}(f:ops.toList[i]?=Q o)(m:Region.ready md ops l=[i])
  (h:∀b:Act->E->Prop,Shut (∀a w,S w->wpAnyH P md ops ZO S k (l.setIfInBounds i ZH) a w->b a w)->if Region.wanted o (yielded ops a.tmps)=ZH then Oper.wp P o a w b ZO else b (a.put o.dst undef) w) :
  wpAnyH P md ops ZO S (k+1) l a w:=by
 rw[NT] at f;exact wpAnyH_ready m (WN _ _) (AllReadyH.cons f (λb g=>h b (λa w j n=>g a w j (λ_=>n))) AllReadyH.nil)
def li (j:Nat){i:Nat}{o:Oper}{k:Nat}{l:Array Bool}{a:Act}{w:E}(_:nxS (l.toList.drop j) j=Q i)(f:ops.toList[i]?=Q o)(g:Region.ready md ops l=[i])
  (h:∀b:Act->E->Prop,Shut (∀a w,S w->wpAnyH P md ops ZO S k (l.setIfInBounds i ZH) a w->b a w)->if Region.wanted o (yielded ops a.tmps)=ZH then Oper.wp P o a w b ZO else b (a.put o.dst undef) w) :
  wpAnyH P md ops ZO S (k+1) l a w:=aL f g h
def Br (j:Nat){i:Nat}{f:Oper}{k:Nat}{l:Array Bool}{a:Act}{w:E}(_:nxS (l.toList.drop j) j=Q i)(hi:ops.toList[i]?=Q f)(b:(Region.noSelect ops && Region.free md ops l i && (Region.ready md ops l).contains i)=ZH)
  (n:∀c a w,ZO (.panic c) (a.put f.dst undef) w->ZO (.panic c) a w) (g:Region.wanted f (yielded ops a.tmps)=ZA) (m:S w)
  (h:wpAnyH P md ops ZO S k (l.setIfInBounds i ZH) (a.put f.dst undef) w):wpAnyH P md ops ZO S (k+1) l a w:=by
 simp only[j6] at b;rw[NT] at hi;exact wpAnyH_take hi b.1.1 b.1.2 b.2 n (.inr ⟨g,rfl⟩) m h
end
end Go.Proofs.YtcnilonhfpimnaaGreatDoor.Vp
namespace Go.Proofs.YtcnilonhfpimnaaGreatDoor.Ca
section
variable {P:Program}{ops:Array Oper}{ZO:Exit->Act->E->Prop}{md:Region.Mode}{S:E->Prop}{n:Nat}
def dP (P:Program)(md:Region.Mode)(ops:Array Oper)(ZO:Exit->Act->E->Prop)(S:E->Prop)(n:Nat):Nat->Array Bool->Act->E->Prop
 |0,l,a,w=>Region.ready md ops l=[]/\ZO .normal a w
 |k+1,l,a,w=>(Region.ready md ops l=[]->ZO .normal a w)/\∀i∈Region.ready md ops l,wpOp P ops ZO i (λf b=>(i≠n->S b)/\dP P md ops ZO S n k (l.setIfInBounds i ZH) f b) a w
def uW:∀(k:Nat) (l:Array Bool) (a:Act) (w:E),dP P md ops ZO S n k l a w->wpAny P md ops ZO k l a w
 |0,_,_,_,h=>h
 |k+1,_,_,_,h=>⟨h.1,λi hi=>wpOp_mono (λb f x=>uW k _ b f x.2) (h.2 i hi)⟩
def waitsFor (md:Region.Mode)(ops:Array Oper)(n i:Nat):Bool:=match ops[n]? with
 |some o=>o.after.any λe=>Region.binds md e && e.on == i
 |none=>ZA
def Bs {i:Nat}{o:Oper}(h:waitsFor md ops n i=ZH)(f:ops[n]?=Q o)(hn:∀e∈o.after,Region.binds md e=ZH->e.on≠i):False:=by unfold waitsFor at h;simp only[f] at h;obtain⟨e,b,h2⟩:=Array.any_eq_true'.1 h;simp only[Bool.and_eq_true,beq_iff_eq] at h2;exact hn e b h2.1 h2.2
def zC {i:Nat}{p:Oper}{v:ZB}(hi:ops[i]?=Q p)(t:∀(j:Nat) (o:Oper) r b,ops[j]?=Q o->o.op≠.select r b)(W:∀c a w,ZO (.panic c) (a.put p.dst v) w->ZO (.panic c) a w)(ZN:waitsFor md ops n i=ZH):∀(k:Nat) (l:Array Bool) (a:Act) (w:E),(∀j g,ops[j]?=Q g->j≠i->l.getD j ZH=ZA->(∀e∈g.after,Region.binds md e=ZH->e.on≠i)->p.apart ops g=ZH) ->
   i∈Region.ready md ops l->YieldsIf P ops S p v a->S w->dP P md ops ZO S n k (l.setIfInBounds i ZH) (a.put p.dst v) w->dP P md ops ZO S n (k+1) l a w:=by
 intro k;induction k with
 |zero =>
  intro l a w _ q u s H;refine⟨λe=>absurd q (by rw[e];exact List.not_mem_nil),λj y=>?_⟩;rcases Decidable.em (j=i) with rfl|f;{exact u.wpOp hi s ⟨λ_=>s,H⟩};{exact absurd (ready_mono y f) (by rw[H.1];exact List.not_mem_nil)}
 |succ k O =>
  intro l a w K q u s H;refine⟨λe=>absurd q (by rw[e];exact List.not_mem_nil),λj y=>?_⟩;rcases Decidable.em (j=i) with rfl|f;{exact u.wpOp hi s ⟨λ_=>s,H⟩};{obtain⟨ZR,g,h,C⟩:=mem_ready.1 y;have ZW:∀e∈g.after,Region.binds md e=ZH->e.on≠i:=λe M hb x=>(by have h1:=C e M hb;have G:=(mem_ready.1 q).1;rw[x] at h1;rcases Nat.lt_or_ge i l.size with ZY|ZY;{simp[ZY] at G h1;rw[G] at h1;cases h1};{simp[Array.getElem?_eq_none ZY] at h1});have ZX:j≠n:=λe=>Bs ZN (e ▸ h) ZW;refine wpOp_mono (λZQ ZP x=>⟨λ_=>x.2.1 ZX,O _ ZQ ZP (λm V R ZS ZT L=>K m V R ZS ?_ L) (ready_mono q (Ne.symm f)) x.1 (x.2.1 ZX) ?_⟩) (wpOp_putIf h (K j g h f ZR ZW) (λr b=>t i p r b hi) (λr b=>t j g r b h) W u (H.2 j (ready_mono y f)));{rcases Decidable.em (j=m) with rfl|D;{exact ZR};{rwa[getD_set_ne ZH D] at ZT}};{rw[Array.setIfInBounds_comm _ _ f];exact x.2.2}}
def fs {i:Nat}{b:Oper}{v:ZB}{k:Nat}{l:Array Bool}{a:Act}{w:E}(hi:ops.toList[i]?=Q b)(j:Region.noSelect ops=ZH)(f:Region.free md ops l i=ZH)(q:(Region.ready md ops l).contains i=ZH)(g:waitsFor md ops n i=ZH)
  (r:∀c a w,ZO (.panic c) (a.put b.dst v) w->ZO (.panic c) a w) (m:b.guard=Y) (o:∀w,S w->(execOp a.eval b).run P w=.ok (.value v) w) (p:S w)
  (h:dP P md ops ZO S n k (l.setIfInBounds i ZH) (a.put b.dst v) w):dP P md ops ZO S n (k+1) l a w:=by
 rw[Array.getElem?_toList] at hi;exact zC hi (Region.noSelect_spec j) r g k l a w (Region.free_spec hi f) (by simpa using q) (.inl ⟨by simp[Region.wanted,m],o⟩) p h
def nxA:List Bool->Nat->Option Nat
 |[],_=>Y
 |true::l,j=>nxA l (j+1)
 |false::_,j=>Q j
def aO (j:Nat){i:Nat}{f:Oper}{v:ZB}{k:Nat}{l:Array Bool}{a:Act}{w:E}(_:nxA (l.toList.drop j) j=Q i)(hi:ops.toList[i]?=Q f)(b:(Region.noSelect ops && Region.free md ops l i && (Region.ready md ops l).contains i && waitsFor md ops n i)=ZH)
  (p:∀c a w,ZO (.panic c) (a.put f.dst v) w->ZO (.panic c) a w) (g:f.guard=Y) (m:∀w,S w->(execOp a.eval f).run P w=.ok (.value v) w) (o:S w)
  (h:dP P md ops ZO S n k (l.setIfInBounds i ZH) (a.put f.dst v) w):dP P md ops ZO S n (k+1) l a w:=by
 simp only[Bool.and_eq_true] at b;exact fs hi b.1.1.1 b.1.1.2 b.1.2 b.2 p g m o h
def ai {i:Nat}{o:Oper}{k:Nat}{l:Array Bool}{a:Act}{w:E}(f:ops.toList[i]?=Q o)(g:Region.ready md ops l=[i])
  (h:∀b:Act->E->Prop,Shut (∀a w,(i≠n->S w)->dP P md ops ZO S n k (l.setIfInBounds i ZH) a w->b a w)->if Region.wanted o (yielded ops a.tmps)=ZH then Oper.wp P o a w b ZO else b (a.put o.dst undef) w) :
  dP P md ops ZO S n (k+1) l a w:=by
 rw[Array.getElem?_toList] at f;refine⟨λe=>absurd e (by rw[g];exact List.cons_ne_nil _ _),λj m=>?_⟩;rw[g] at m;obtain rfl:=List.mem_singleton.1 m;exact wpOp_step f λb p=>h b λa w q r=>p a w ⟨q,r⟩
def bV (j:Nat){i:Nat}{o:Oper}{k:Nat}{l:Array Bool}{a:Act}{w:E}(_:nxA (l.toList.drop j) j=Q i)(f:ops.toList[i]?=Q o)(g:Region.ready md ops l=[i])
  (h:∀b:Act->E->Prop,Shut (∀a w,(i≠n->S w)->dP P md ops ZO S n k (l.setIfInBounds i ZH) a w->b a w)->if Region.wanted o (yielded ops a.tmps)=ZH then Oper.wp P o a w b ZO else b (a.put o.dst undef) w) :
  dP P md ops ZO S n (k+1) l a w:=ai f g h
def ba {l:Array Bool}{a:Act}{w:E}(b:Region.ready md ops l=[])(h:ZO .normal a w)(k:Nat):dP P md ops ZO S n k l a w:=by
 cases k with
 |zero=>exact⟨b,h⟩
 |succ k=>exact⟨λ_=>h,by rw[b];intro i hi;cases hi⟩
def aI {id:Nat}{a:Act}{w:E}(S:E->Prop)(n:Nat)(b:P.follows .mixedOrders=ZH)(h:dP P .any ops ZO S n ops.size (Array.replicate ops.size ZA) a w.drew):(Code.region id ops ZH).wp P ZO a w:=
 wp_region_any b (uW _ _ _ _ h)
end
section
variable {P:Program}{ops:Array Oper}{ZO:Exit->Act->E->Prop}{md:Region.Mode}{S:E->Prop}{n:Nat}
def pu {i j:Nat}{f g:Oper}{k:Nat}{l:Array Bool}{a:Act}{w:E}(hi:ops.toList[i]?=Q f)(s:ops.toList[j]?=Q g)(r:Region.ready md ops l=[i,j])
  (h1:∀b:Act->E->Prop,Shut (∀a w,(i≠n->S w)->dP P md ops ZO S n k (l.setIfInBounds i ZH) a w->b a w)->if Region.wanted f (yielded ops a.tmps)=ZH then Oper.wp P f a w b ZO else b (a.put f.dst undef) w)
  (h2:∀b:Act->E->Prop,Shut (∀a w,(j≠n->S w)->dP P md ops ZO S n k (l.setIfInBounds j ZH) a w->b a w)->if Region.wanted g (yielded ops a.tmps)=ZH then Oper.wp P g a w b ZO else b (a.put g.dst undef) w) :
  dP P md ops ZO S n (k+1) l a w:=by
 rw[Array.getElem?_toList] at hi s;refine⟨λe=>absurd e (by rw[r];exact List.cons_ne_nil _ _),λm h=>?_⟩;rw[r] at h;rcases List.mem_cons.1 h with rfl|h;{exact wpOp_step hi λb o=>h1 b λa w q p=>o a w ⟨q,p⟩};{obtain rfl:=List.mem_singleton.1 h;exact wpOp_step s λb o=>h2 b λa w q p=>o a w ⟨q,p⟩}
end
end Go.Proofs.YtcnilonhfpimnaaGreatDoor.Ca
namespace Go.Proofs.YtcnilonhfpimnaaGreatDoor.Vp
section
variable {P:Program}{ops:Array Oper}{ZO:Exit->Act->E->Prop}{md:Region.Mode}{S:E->Prop}
def jQ {i j:Nat}{f g:Oper}{k:Nat}{l:Array Bool}{a:Act}{w:E}(hi:ops.toList[i]?=Q f)(o:ops.toList[j]?=Q g)(p:Region.ready md ops l=[i,j])
  (h1:∀b:Act->E->Prop,Shut (∀a w,S w->wpAnyH P md ops ZO S k (l.setIfInBounds i ZH) a w->b a w)->if Region.wanted f (yielded ops a.tmps)=ZH then Oper.wp P f a w b ZO else b (a.put f.dst undef) w)
  (h2:∀b:Act->E->Prop,Shut (∀a w,S w->wpAnyH P md ops ZO S k (l.setIfInBounds j ZH) a w->b a w)->if Region.wanted g (yielded ops a.tmps)=ZH then Oper.wp P g a w b ZO else b (a.put g.dst undef) w) :
  wpAnyH P md ops ZO S (k+1) l a w:=by
 rw[NT] at hi o;exact wpAnyH_ready p (WN _ _) (AllReadyH.cons hi (λb h=>h1 b (λa w n m=>h a w n (λ_=>m))) (AllReadyH.cons o (λb h=>h2 b (λa w n m=>h a w n (λ_=>m))) AllReadyH.nil))
end
open RowKit Ca
def fH (a0:O_)(n0 c0:Nat)(f0:Nat->Source)(a1:O_)(n1 c1:Nat)(f1:Nat->Target)(t:F_)(w:E)(hn0:(n0:Int)<=1048576)(hn1:(n1:Int)<=1048576)(O:Qy w a0 n0 f0)(ZQ:Qx w a1 n1 f1)(ZS:∀i,i<n1->aP (f1 i)):Calls Tryz.prog 42 #[ZJ #[Z a0 n0 c0,Z a1 n1 c1],U t] w λe w'=>∃s r R,e=ZI (ZJ #[s,r])/\w'.ownsRow (A (z w)+3) 82 2 s (Qz f0 t n0).length ((Qz f0 t n0).flatMap bF)/\TRow w' (A (z w)+3) r R/\R.map (·.1)=Qq f1 t n1/\Below (A (z w)) w w':=by
 have V0:=ae O;have V1:=ae ZQ;have HF:=ae ZS;clear O ZQ ZS;obtain⟨la,hi,n9,th,mv⟩:=NP jn;obtain⟨qr,hj,At,X,bt⟩:=NP fw;have A0:=ae ((((BS w).alloc ly (N #[Z a0 n0 c0,Z a1 n1 c1] 29)).alloc (by simp) (N #[Z Y 0 0,Z Y 0 0] 29)).alloc (by simp;omega) (N #[Z Y 0 0,Z Y 0 0] 29));have X0:=ae (Bo w (Z a0 n0 c0) (Z a1 n1 c1) 29);go_enter Tryz.func42,Tryz.ntmps42;go_wp2;generalize ZU (ZU (ZU w (N #[Z a0 n0 c0,Z a1 n1 c1] 29)) (N #[Z Y 0 0,Z Y 0 0] 29)) (N #[Z Y 0 0,Z Y 0 0] 29)=W at A0 X0 ⊢;go_loopw [6] (λi wr=>∃(k:Nat) (s:ZB),k<=n0/\i=J I k/\Hid (Boxes wr (A (z w)) (Z a0 n0 c0) (Z a1 n1 c1) s (Z Y 0 0))/\Hid (wr.ownsRow (A (z w)+3) 82 2 s (Qz f0 t k).length ((Qz f0 t k).flatMap bF))/\Hid (Below (A (z w)) w wr)) (λi _=>n0 - (intOf i).toNat);case atStart=>exact⟨0,_,by omega,rfl,X0,CP _ _ _ _,A0⟩
 case round =>
  obtain⟨k,s,hk,rfl,f,D,q⟩:=hrel;have ex:=f.lt;by_cases ZX:k<n0
  ·obtain⟨b,off,rfl,u⟩:=V0.resolve_left (by omega);obtain⟨ZP,d1⟩:=(u.2 k ZX).aa q u.1;clear u;have hll:=gO f0 t k;have ZL:=f.a0;cases hq:((f0 k).e.toList == t.toList) with
   |true =>have ZY:=ae hq;go_wp2;exact⟨⟨k+1,s,by omega,by go_num,f,by show World.ownsRow _ _ _ _ _ _ _;rw[zu ZY.i];exact D,q⟩,by simp[intOf];omega⟩
   |false =>
    have ZY:=ae hq;obtain⟨x0,y0⟩:=f.o0;have y:=ae ((a8 (A (z w)+3) wr).drew.alloc (by simp;omega) (N #[U (f0 k).e,U (f0 k).H] 82));go_wp2_with fail
    go_region_law (first
     |(refine dR rfl (.tmp 25) (.tmp 31) 26 rfl (A (z w)+3) 82 la (ZJ #[U ⟨#[]⟩,U ⟨#[]⟩]) 2 32 QH hi n9 th mv rfl (by decide) s (Qz f0 t k).length ((Qz f0 t k).flatMap bF) (by simp[Act.eval]) (D.drew.alloc _) (T (A (z wr)) 0 Y) 1 1 (bF (f0 k)) (by simp[Act.eval]) rfl (df wr.drew _ _ _) (by simp[bF,Value.oneCell']) (by unfold maxLen;omega) (by omega) (by simp<;>omega) ?_;intro v' w2 n l ZW;obtain⟨gs,cs,rfl⟩:=ey n (by omega);have O2:=ae n;have B2:=ae (bg y l (by simp<;>omega) (λj e=>(D.lt j e).1));obtain⟨x2,y2⟩:=(f.aa B2 ly).o0;clear n l ZW))
    all_goals
     clear x0 y0 ZL;go_wp2;exact⟨⟨k+1,_,by omega,by go_num,(f.aa B2 ly).set0 _,by show World.ownsRow _ _ _ _ _ _ _;rw[zv ZY.i,cM,KE];simpa using aH O2.i (by omega) _,(q.k (B2.P (by omega))).setCell (by simp;omega) _⟩,by simp[intOf];omega⟩
  ·have e:n0=k:=by omega
   subst e;have ZL:=f.a0;have ZR:=f.a1;go_wp2;clear ZL ZR ZX hk;generalize wr=W1 at f D q ex ⊢;go_loopw [7] (λi wr=>∃(k:Nat) (r:ZB) (R:List TR),k<=n1/\i=J I k/\Hid (Boxes wr (A (z w)) (Z a0 n0 c0) (Z a1 n1 c1) s r)/\Hid (wr.ownsRow (A (z w)+3) 82 2 s (Qz f0 t n0).length ((Qz f0 t n0).flatMap bF))/\Hid (TRow wr (A (z w)+3) r R)/\Hid (R.map (·.1)=Qq f1 t k)/\Hid (Below (A (z w)) w wr)) (λi _=>n1 - (intOf i).toNat);case atStart=>exact⟨0,_,[],by omega,rfl,f,D,dq _ _,rfl,q⟩
   case round =>
    clear f D q;obtain⟨k,r,R,hk,rfl,f,ZT,C,L,q⟩:=hrel;have hlt4:=f.lt;by_cases ZX:k<n1
    ·obtain⟨b,off,rfl,u⟩:=V1.resolve_left (by omega);obtain⟨ZP,ZO,S,d1,hx⟩:=(u.2 k ZX).aa q ly u.1;have HX:=ae hx;have ur:=u.1;clear u hx;have hRl:B R<=1048576:=by have h1:=xT List.length L.i;have h2:=kf f1 t k;simp at h1;omega
     have ph:((f1 k).h:Int)<=1048576:=by have:=HF.i k ZX;unfold aP at this;omega
     have ZR:=f.a1;have n8:¬ b=A (z w)+1+1:=by omega
     have aq:¬ (A (z w))+1+1=b:=by omega
     have hbw:b<A (z wr):=lj ur q.size;cases hq:((f1 k).e.toList == t.toList) with
     |true =>have ZY:=ae hq;go_wp2;exact⟨⟨k+1,r,R,by omega,by go_num,f,ZT,C,by show _=Qq f1 t (k+1);rw[zx ZY.i];exact L,q⟩,by simp[intOf];omega⟩
     |false =>
      have ZY:=ae hq;have ST:Hid (∀V,Below (A (z w)+3) wr V->(ZV V (T (A (z w)+1+1) 1 Y)=Q r/\(A (z w))+1+1<A (z V))/\(ZV V (T (A (z w)) 1 Y)=Q (Z (Q (T b off Y)) n1 c1)/\(A (z w))<A (z V))/\ZV V (T b (off+k*2) Y)=Q (U (f1 k).e)/\ZV V (T b (off+k*2+1) Y)=Q (Z ZO (f1 k).h S)/\b<A (z V)):=λV M=>by have hz:=M.size;have h:=f.aa M ly;exact⟨⟨h.o1.1,by have:=h.lt;omega⟩,⟨h.a1,by have:=h.lt;omega⟩,(M.O (p:=(T b (off+k*2) Y)) (by show b<A (z w)+3;omega)).k ZP,(M.O (p:=(T b (off+k*2+1) Y)) (by show b<A (z w)+3;omega)).k d1,by omega⟩
      have y:=ae (BS wr).drew;have hki:(k:Int)<(n1:Int):=by omega
      go_wp2_with fail;refine aI (λV=>(ZV V (T (A (z w)+1+1) 1 Y)=Q r/\(A (z w))+1+1<A (z V))/\(ZV V (T (A (z w)) 1 Y)=Q (Z (Q (T b off Y)) n1 c1)/\(A (z w))<A (z V))/\ZV V (T b (off+k*2) Y)=Q (U (f1 k).e)/\ZV V (T b (off+k*2+1) Y)=Q (Z ZO (f1 k).h S)/\b<A (z V)) 19 (by kernel_rfl) ?_;have o:=ae (ST _ (y.P (by omega)));clear ZR ZP d1 n8 aq;generalize wr.drew=v2 at y o ⊢;iterate 14
       refine aO 0 (v:=?_) rfl rfl (by kernel_rfl) (λ_ _ _ h=>h) rfl ?_ o ?_;rotate_left
       ·(intro wz sm;obtain⟨⟨s0,s1⟩,⟨s2,s3⟩,s4,s5,s6⟩:=sm;go_simp)
        (try with_reducible rfl)
       (try simp only[Act.put,z_])
      refine ai (i:=14) rfl (by kernel_rfl) λK m=>?_;go_simp;go_at_call 44;refine(jf ZO (f1 k).h S (f1 k).q _ ph (HX.aa y ly)).P ?_;rintro e wC⟨g,c,rfl,P,hB⟩;have DC:=ae (y.k (hB.P y.size));have ro:=DC.size;have fd:=(cV P).1;have hz1:=y.size;have OC:=ae (aE P (base':=A (z w)+3) (by omega));have ZM:A (z wr)<=g:=by omega
      clear hB P fd o;have o:=ae (ST _ (DC.P (by omega)));refine m _ _ (λ_=>o) ?_;clear m K
      (try simp only[Act.put,z_])
      refine ai (i:=15) rfl (by kernel_rfl) λK m=>?_;go_simp;refine m _ _ (λ_=>o) ?_;clear m K o
      (try simp only[Act.put,z_])
      have H:=ae (DC.alloc ro (N #[U (f1 k).e,Z (Q (T g 0 Y)) (f1 k).h c] 86));have o:=ae (ST _ (H.P (by omega)));refine ai (i:=16) rfl (by kernel_rfl) λK m=>?_;go_simp;refine m _ _ (λ_=>o) ?_;clear m K o
      (try simp only[Act.put,z_])
      refine ai (i:=17) rfl (by kernel_rfl) λK m=>?_;refine dR rfl (.tmp 50) (.tmp 65) 27 rfl (A (z w)+3) 86 qr (ZJ #[U ⟨#[]⟩,Z Y 0 0]) 2 40 ON hj At X bt rfl (by decide) r (B R) (R.flatMap aZ) (by simp[Act.eval]) ((C.aa DC ly).u.alloc _) (T (A (z wC)) 0 Y) 1 1 (aZ (f1 k,g,c)) (by simp[Act.eval]) rfl (df wC _ _ _) (by simp[aZ,Value.oneCell']) (by unfold maxLen;omega) (by omega) (by simp;omega) ?_;intro v' w2 n l ZW;obtain⟨gs,cs,rfl⟩:=ey n (by omega);have T2:=ae (C.more (x:=f1 k) (g:=g) (c:=c) H ZM (by omega) (OC.alloc _) n l);have ZN:=ae (bg (H.P (show (A (z w))+3<=A (z wr) by omega)) l (by simp;omega) (λj e=>(C.u.lt j e).1));have ld:=ae ((K_ ZT H ly).kept l (Bn (K_ ZT H ly) ((C.aa DC ly).u.alloc _) (by decide)));have G:=ae (f.aa ZN ly);obtain⟨x2,y2⟩:=G.o1;have hz2:=G.lt;have o:=ae (ST _ ZN);clear n l ZW;refine m _ _ (λ_=>o) ?_;clear m K
      (try simp only[Act.put,z_])
      refine ai (i:=18) rfl (by kernel_rfl) λK m=>?_;go_simp;refine m _ _ (λ_=>o) ?_;clear m K
      (try simp only[Act.put,z_])
      have hz3:A (z w)+1+1<A (z w2):=by omega
      refine ai (i:=19) rfl (by kernel_rfl) λK m=>?_;go_simp;refine m _ _ (λh=>absurd rfl h) ?_;clear m K o
      (try simp only[Act.put,z_])
      refine ba (by kernel_rfl) ?_ _;clear x2 y2;go_wp2;exact⟨⟨k+1,_,R++[(f1 k,g,c)],by omega,by go_num,G.set1 _,aH ld (by omega) _,T2.set (by omega) _,by show _=Qq f1 t (k+1);rw[zy ZY.i,NE,L.i];rfl,(q.k (ZN.P (by omega))).setCell (by simp;omega) _⟩,by simp[intOf];omega⟩
    ·have e:n1=k:=by omega
     subst e;have ZR:=f.a1;obtain⟨sa,sc,rfl⟩:=aJ ZT;obtain⟨ta,tc,rfl⟩:=aJ C.u;obtain⟨r0,q0⟩:=f.r0;obtain⟨r1,q1⟩:=f.r1;obtain⟨m0,_⟩:=f.o0;obtain⟨m1,_⟩:=f.o1;go_wp2;exact bp (v:=ZJ #[Z sa _ sc,Z ta _ tc]) (by simp[results,Tryz.results42,go_sem,r0,r1]) rfl ⟨_,_,R,rfl,aH (aH ZT (by omega) _) (by omega) _,(C.set (by omega) _).set (by omega) _,L,(q.setCell (by simp) _).setCell (by simp) _⟩
def nE (a0:O_)(n0 c0:Nat)(f0:Nat->Source)(a1:O_)(n1 c1:Nat)(f1:Nat->Target)(t tx:F_)(w:E)(hn0:(n0:Int)<=1048576)(hn1:(n1:Int)<=1048576)(DQ:Qy w a0 n0 f0)(Bk:Qx w a1 n1 f1)(qr:∀i,i<n1->aP (f1 i))(hs:∀i,i<n1->∀j,j<(f1 i).h->((f1 i).q j).s.size<=maxLen):Calls Tryz.prog 12 #[ZJ #[Z a0 n0 c0,Z a1 n1 c1],U t,U tx] w λe ZN=>∃v0 v1 R,e=ZI (.tuple #[ZJ #[v0,v1],J I (iC n0 f0 n1 f1 t tx)])/\ZN.ownsRow (A (z w)) 82 2 v0 (eZ n0 f0 n1 f1 t tx).length ((eZ n0 f0 n1 f1 t tx).flatMap bF)/\TRow ZN (A (z w)) v1 R/\R.map (·.1)=fC n0 f0 n1 f1 t tx/\Below (A (z w)) w ZN:=by
 have V0:=ae DQ;have V1:=ae Bk;have HF:=ae qr;have HS:=ae hs;clear DQ Bk qr hs;obtain⟨H,ZS,P,G,M⟩:=NP jn;obtain⟨C,hC⟩:∃C,C=aR n0 f0 n1 f1:=⟨_,rfl⟩
 obtain⟨D,hD⟩:∃D,D=iC n0 f0 n1 f1 t tx:=⟨_,rfl⟩
 obtain⟨LS,mv⟩:∃LS,LS=eZ n0 f0 n1 f1 t tx:=⟨_,rfl⟩
 obtain⟨LT,ph⟩:∃LT,LT=fC n0 f0 n1 f1 t tx:=⟨_,rfl⟩
 rw[<-hD,<-mv,<-ph];have HC:=ae hC;have HD:=ae (hD.k (by unfold iC;rw[<-hC]));have ZX:=ae (mv.k (by unfold eZ;rw[<-hD]));have bt:=ae (ph.k (by unfold fC;rw[<-hD]));clear hC hD mv ph;obtain⟨W,At⟩:∃W:E,ZU (ZU w (N #[Z a0 n0 c0,Z a1 n1 c1] 29)) (N #[Z Y 0 0,Z Y 0 0] 29)=W:=⟨_,rfl⟩
 obtain⟨A0,-,-,-⟩:=nb2 At;have Fk:=ae At;clear At;have X0:=ae (uN w (Z a0 n0 c0) (Z a1 n1 c1) 29);go_enter Tryz.func12,Tryz.ntmps12;go_wp2_with fail;rw[Fk.i] at X0 ⊢;clear Fk;refine(eK a0 n0 c0 f0 a1 n1 c1 f1 _ hn0 hn1 (V0.aa A0 ly) (V1.aa A0 ly) HF HS).P ?_;rintro e w1⟨rfl,y⟩;rw[<-HC.i];have X1:=ae (X0.aa y X0.lt');have B1:=ae (A0.k (y.P A0.size));clear y A0 X0;by_cases hc:C=0;case neg =>
  have hd:=HD.i;rw[eT hc] at hd;have r:=ZX.i;rw[eI (by omega)] at r;have o:=bt.i;rw[eI (by omega)] at o;subst hd r o;have hc':(C == 0)=ZA:=by simpa using hc
  obtain⟨r0,q0⟩:=X1.r0;obtain⟨r1,S⟩:=X1.r1;go_wp2;exact bp (v:=.tuple #[ZJ #[Z Y 0 0,Z Y 0 0],J I 1]) (by simp[results,UM,go_sem,r0,r1]) rfl ⟨_,_,[],rfl,CP _ _ _ _,dq _ _,rfl,(B1.setCell (by simp) _).setCell (by simp) _⟩
 subst hc;have hz:=lU HC.c;have HZ:=ae hz;clear hz HC;have n9:=HD.i;rw[eI (by omega)] at n9;have th:=ae n9;clear n9 HD;go_wp2_with fail;refine(dl t _).P ?_;rintro e w2⟨rfl,y⟩;have ZR:=ae (X1.aa y X1.lt');have ZL:=ae (B1.k (y.P B1.size));clear y X1 B1;by_cases n:aA t=ZA\/2000<(tx.size:Int)
 ·have hd:=th.i;rw[eT n] at hd;have r:=ZX.i;rw[eI (by omega)] at r;have o:=bt.i;rw[eI (by omega)] at o;subst hd r o;obtain⟨r0,q0⟩:=ZR.r0;obtain⟨r1,S⟩:=ZR.r1;cases hn:aA t with
  |false =>clear n;go_wp2;exact bp (v:=.tuple #[ZJ #[Z Y 0 0,Z Y 0 0],J I 2]) (by simp[results,UM,go_sem,r0,r1]) rfl ⟨_,_,[],rfl,CP _ _ _ _,dq _ _,rfl,(ZL.setCell (by simp) _).setCell (by simp) _⟩
  |true =>have Fm:(2000:Int)<tx.size:=n.resolve_left (by simp[hn]);clear n;go_wp2;exact bp (v:=.tuple #[ZJ #[Z Y 0 0,Z Y 0 0],J I 2]) (by simp[results,UM,go_sem,r0,r1]) rfl ⟨_,_,[],rfl,CP _ _ _ _,dq _ _,rfl,(ZL.setCell (by simp) _).setCell (by simp) _⟩
 have ro:=th.i;rw[eI n] at ro;have Fd:=ae ro;have hn:aA t=ZH:=by
  cases h:aA t with
  |true=>rfl
  |false=>exact absurd (.inl h) n
 have Fm:¬ (2000:Int)<tx.size:=λh=>n (.inr h);clear ro th n;have k0:=ZR.a0;have k1:=ZR.a1;rw[hn];go_wp2_with fail;refine(fH a0 n0 c0 f0 a1 n1 c1 f1 t _ hn0 hn1 (V0.aa ZL ly) (V1.aa ZL ly) HF).P ?_;rintro e w3⟨v0,v1,R,rfl,hO,hR,hM,y⟩;have hlt2:=ZR.lt;have X3:=ae (ZR.aa y ZR.lt');have B3:=ae (ZL.k (y.P ZL.size));obtain⟨sa,sc,rfl⟩:=aJ hO;obtain⟨ta,tc,rfl⟩:=aJ hR.u;have eR:B R=(Qq f1 t n1).length:=by rw[<-hM];simp
 have Hx:=gO f0 t n0;have Id:=kf f1 t n1;obtain⟨L,hL⟩:∃L,L=Qz f0 t n0:=⟨_,rfl⟩
 obtain⟨K,hK⟩:∃K,K=Qq f1 t n1:=⟨_,rfl⟩
 rw[<-hL] at hO Hx ⊢;rw[<-hK] at hM Id eR;have ZY:=Fd.i;rw[<-hL,<-hK] at ZY;have r:=ZX.i;rw[<-hL] at r;have o:=bt.i;rw[<-hK] at o;have ER:=ae eR;have hlr:B R<=n1:=by omega
 clear Fd ZX bt hL hK y k0 k1 hn ZR ZL eR;have O3:=ae (aE hO (base':=A (z w)) (by omega));have RX:Hid (∀ZN,Below (A (z w3)) w3 ZN->TRow ZN (A (z w2)+3) (Z ta (B R) tc) R):=λZN hb=>hR.aa hb ly;have HM:=ae hM;have hll:(B L:Int)<=1048576:=by omega
 clear hO hR hM;obtain⟨w4,ZO⟩:∃W:E,ZU w3 (N #[Z sa (B L) sc,Z ta (B R) tc] 29)=W:=⟨_,rfl⟩
 obtain⟨DB,-,la⟩:=nb1 ZO;have ur:=ae ZO;clear ZO;have V:=ae (uS w3 (Z sa (B L) sc) (Z ta (B R) tc) 29);have X4:=ae (X3.aa DB X3.lt');have B4:=ae (B3.k (DB.P B3.size));have O4:=ae (K_ O3 DB ly);have n8:=ae DB.i;have DE:A (z w)+1<A (z w3):=X3.lt;have c8:=V.c0;have c9:=V.c1;clear O3 DB;by_cases hc3:(200:Int)<=B L+B R;{rw[eT (by have:=ER.i;omega)] at ZY;rw[eI (by omega)] at r o;subst ZY r o;obtain⟨r0,q0⟩:=X3.r0;obtain⟨r1,S⟩:=X3.r1;clear c8 c9;go_wp2;exact bp (v:=.tuple #[ZJ #[Z Y 0 0,Z Y 0 0],J I 3]) (by simp[results,UM,go_sem,r0,r1,DE]) rfl ⟨_,_,[],rfl,CP _ _ _ _,dq _ _,rfl,((B3.setCell (by simp) _).setCell (by simp) _).alloc (by have:=B3.size;simp;omega) _⟩};clear X3 B3;rw[eI (by have:=ER.i;omega)] at ZY;rw[eT ZY] at r o;subst ZY o;have ZX:=ae r;clear r;go_wp2;rw[ur.i] at V c8 c9 ⊢;clear ur;generalize (A (z w3))=X at V c8 c9 DE la RX n8 ⊢;obtain⟨u,sm⟩:∃u,u=A (z w4):=⟨_,rfl⟩
 have E0:Hid (Below u w4 (ZU w4 (N #[] 82))):=by rw[sm];exact br.alloc ly _
 have W0:Hid ((ZU w4 (N #[] 82)).ownsRow u 82 2 (Z (Q (T (X+1) 0 Y)) 0 0) 0 []):=by rw[<-la];exact OV w4 #[] 0 (by omega) (by unfold maxLen;omega) rfl
 have x:X<u:=by have:=V.lt;omega
 have g:=ae sm;have O:=ae la;clear sm la;go_loopw [9,10,11] (λv d i wr=>∃(k:Nat) (db:Bool),k<=B L/\i=J I k/\d=.bool db/\Hid (db=dD L t k)/\Hid (wr.ownsRow u 82 2 v (ci L ⟨t,tx⟩ t k).length ((ci L ⟨t,tx⟩ t k).flatMap bF))/\Hid (Below u w4 wr)) (λ_ _ i _=>B L - (intOf i).toNat);case atStart=>exact⟨0,ZA,by omega,rfl,rfl,rfl,W0,E0⟩
 case round =>
  obtain⟨k,db,hk,rfl,rfl,ZT,ZW,m⟩:=hrel;have e8:=(m.O (p:=(T X 0 Y)) x).k c8;have GS:=sI L ⟨t,tx⟩ t k;obtain⟨hlen1,ex⟩:=GS;have HL2:=ae ex;clear ex;by_cases o:k<B L
  ·obtain⟨b,off,rfl,hr⟩:=(kZ O4).resolve_left (by omega);obtain⟨p0,p1⟩:=hr.2 k o;have ld:b<u:=by have:=hr.1;have:=g.i;omega
   have d0:=(m.O (p:=(T b (off+k*2) Y)) ld).k p0;have d1:=(m.O (p:=(T b (off+k*2+1) Y)) ld).k p1;clear hr;cases db with
   |true =>
    have HI:Hid (ci L ⟨t,tx⟩ t (k+1)=ci L ⟨t,tx⟩ t k++[aV L k]):=by show(if _ then _ else _)=_;rw[eI (by rw[<-ZT.i];simp)]
    have HN:Hid (ZH=dD L t (k+1)):=by show ZH=(dD L t k || _);rw[<-ZT.i];rfl
    go_wp2_with (at_builtin;(refine DN _ rfl (.tmp 63) (.tmp 69) 26 rfl u 82 H (ZJ #[U ⟨#[]⟩,U ⟨#[]⟩]) 2 32 QH ZS P G M rfl (by decide) _ (ci L ⟨t,tx⟩ t k).length ((ci L ⟨t,tx⟩ t k).flatMap bF) (by simp[Act.eval]) (ZW.alloc _) (T (A (z wr)) 0 Y) 1 1 (bF (aV L k)) (by simp[Act.eval]) rfl (df wr _ _ _) (by simp[bF,Value.oneCell']) (by unfold maxLen;omega) (by omega) (by have:=m.size;have:=g.i;simp;omega) ?_;intro vy wy l f q;have OY:=ae l;have BY:=ae (bg (m.alloc (by have:=m.size;have:=g.i;omega) (N #[U (aV L k).e,U (aV L k).H] 82)) f (by have:=m.size;have:=g.i;simp;omega) (λj e=>(ZW.lt j e).1));clear l f q));exact⟨⟨k+1,ZH,by omega,by go_num,rfl,HN,by show World.ownsRow _ _ _ _ _ _ _;rw[HI.i,cM,KE];simpa using OY.i,BY⟩,by simp[intOf];omega⟩
   |false =>
    cases hq:aC t (aV L k).e with
    |true =>
     have HI:Hid (ci L ⟨t,tx⟩ t (k+1)=ci L ⟨t,tx⟩ t k++[⟨t,tx⟩]++[aV L k]):=by show(if _ then _ else _)=_;rw[eT ⟨ZT.c,hq⟩]
     have HN:Hid (ZH=dD L t (k+1)):=by show ZH=(dD L t k || _);rw[hq];simp
     obtain⟨S,q2⟩:=iW hq;clear hq;go_wp2_with (at_builtin;first|(refine DN _ rfl (.tmp 57) (.tmp 61) 26 rfl u 82 H (ZJ #[U ⟨#[]⟩,U ⟨#[]⟩]) 2 32 QH ZS P G M rfl (by decide) _ (ci L ⟨t,tx⟩ t k).length ((ci L ⟨t,tx⟩ t k).flatMap bF) (by simp[Act.eval]) (ZW.alloc _) (T (A (z wr)) 0 Y) 1 1 (bF ⟨t,tx⟩) (by simp[Act.eval]) rfl (df wr _ _ _) (by simp[bF,Value.oneCell']) (by unfold maxLen;omega) (by omega) (by have:=m.size;have:=g.i;simp;omega) ?_;intro vx wx l f q;have OX:=ae l;have ZM:=ae (bg (m.alloc (by have:=m.size;have:=g.i;omega) (N #[U t,U tx] 82)) f (by have:=m.size;have:=g.i;simp;omega) (λj e=>(ZW.lt j e).1));have f8:=(ZM.O (p:=(T X 0 Y)) x).k c8;have g0:=(ZM.O (p:=(T b (off+k*2) Y)) ld).k p0;have g1:=(ZM.O (p:=(T b (off+k*2+1) Y)) ld).k p1;clear l f q)|(refine DN _ rfl (.tmp 63) (.tmp 69) 26 rfl u 82 H (ZJ #[U ⟨#[]⟩,U ⟨#[]⟩]) 2 32 QH ZS P G M rfl (by decide) _ ((ci L ⟨t,tx⟩ t k).length+1) ((ci L ⟨t,tx⟩ t k).flatMap bF++bF ⟨t,tx⟩) (by simp[Act.eval]) (OX.alloc _) (T (A (z wx)) 0 Y) 1 1 (bF (aV L k)) (by simp[Act.eval]) rfl (df wx _ _ _) (by simp[bF,Value.oneCell']) (by unfold maxLen;omega) (by omega) (by have:=ZM.size;have:=g.i;simp;omega) ?_;intro vy wy l f q;have OY:=ae l;have BY:=ae (bg (ZM.alloc (by have:=ZM.size;have:=g.i;omega) (N #[U (aV L k).e,U (aV L k).H] 82)) f (by have:=ZM.size;have:=g.i;simp;omega) (λj e=>(OX.lt j e).1));clear l f q));exact⟨⟨k+1,ZH,by omega,by go_num,rfl,HN,by show World.ownsRow _ _ _ _ _ _ _;rw[HI.i,cM,cM,KE,KE];simpa using OY.i,BY⟩,by simp[intOf];omega⟩
    |false =>
     have HI:Hid (ci L ⟨t,tx⟩ t (k+1)=ci L ⟨t,tx⟩ t k++[aV L k]):=by show(if _ then _ else _)=_;rw[eI (by rw[hq];simp)]
     have HN:Hid (ZA=dD L t (k+1)):=by show ZA=(dD L t k || _);rw[<-ZT.i,hq];rfl
     have HQ:=ae (jN hq);clear hq;rcases HQ.i with S|⟨S,q2⟩
     all_goals
      go_wp2_with (at_builtin;(refine DN _ rfl (.tmp 63) (.tmp 69) 26 rfl u 82 H (ZJ #[U ⟨#[]⟩,U ⟨#[]⟩]) 2 32 QH ZS P G M rfl (by decide) _ (ci L ⟨t,tx⟩ t k).length ((ci L ⟨t,tx⟩ t k).flatMap bF) (by simp[Act.eval]) (ZW.alloc _) (T (A (z wr)) 0 Y) 1 1 (bF (aV L k)) (by simp[Act.eval]) rfl (df wr _ _ _) (by simp[bF,Value.oneCell']) (by unfold maxLen;omega) (by omega) (by have:=m.size;have:=g.i;simp;omega) ?_;intro vy wy l f q;have OY:=ae l;have BY:=ae (bg (m.alloc (by have:=m.size;have:=g.i;omega) (N #[U (aV L k).e,U (aV L k).H] 82)) f (by have:=m.size;have:=g.i;simp;omega) (λj e=>(ZW.lt j e).1));clear l f q));exact⟨⟨k+1,ZA,by omega,by go_num,rfl,HN,by show World.ownsRow _ _ _ _ _ _ _;rw[HI.i,cM,KE];simpa using OY.i,BY⟩,by simp[intOf];omega⟩
  ·have e:B L=k:=by omega
   subst e;cases db with
   |true =>
    have ZQ:ik L ⟨t,tx⟩ t=ci L ⟨t,tx⟩ t (B L):=by unfold ik;rw[eT ZT.c]
    obtain⟨va,vc,rfl⟩:=aJ ZW;have OF:Hid (wr.ownsRow u 82 2 (Z va (ci L ⟨t,tx⟩ t (B L)).length vc) (B LS) (LS.flatMap bF)):=by show World.ownsRow _ _ _ _ _ _ _;rw[ZX.i,ZQ];exact ZW
    have fd:=g.i;have aq:=O.i;have H1:=ae fd;have H2:=ae aq;have H3:=ae ZQ;have e9:=(m.O (p:=(T X 1 Y)) x).k c9;have y8:=(m.frozen (p:=(T X 0 Y)) x).k V.z0;obtain⟨r0,q0⟩:=(X4.aa m (by omega)).r0;obtain⟨r1,S⟩:=(X4.aa m (by omega)).r1;clear fd aq ZQ;go_wp2;have fd:=g.i;have aq:=O.i;exact bp (v:=.tuple #[ZJ #[Z va (ci L ⟨t,tx⟩ t (B L)).length vc,Z ta (B R) tc],J I 0]) (by simp[results,UM,go_sem,r0,r1]) rfl ⟨_,_,R,rfl,aE (aH (aH (aH OF (R:=X) (j:=0) (by omega) _) (R:=A (z w)+1) (j:=0) (by omega) _) (R:=A (z w)+1) (j:=1) (by omega) _) (by omega),iV (((RX _ ((n8.k (m.P (by omega))).setCell (p:=(T X 0 Y)) ly _)).set (X:=A (z w)+1) (j:=0) (by omega) _).set (X:=A (z w)+1) (j:=1) (by omega) _) (by omega),HM,(((B4.k (m.P (by omega))).setCell (by simp;omega) _).setCell (by simp) _).setCell (by simp) _⟩
   |false =>
    go_wp2_with (at_builtin;(refine DN _ rfl (.tmp 73) (.tmp 77) 26 rfl u 82 H (ZJ #[U ⟨#[]⟩,U ⟨#[]⟩]) 2 32 QH ZS P G M rfl (by decide) _ (ci L ⟨t,tx⟩ t (B L)).length ((ci L ⟨t,tx⟩ t (B L)).flatMap bF) (by simp[Act.eval]) (ZW.alloc _) (T (A (z wr)) 0 Y) 1 1 (bF ⟨t,tx⟩) (by simp[Act.eval]) rfl (df wr _ _ _) (by simp[bF,Value.oneCell']) (by unfold maxLen;omega) (by omega) (by have:=m.size;have:=g.i;simp;omega) ?_;intro vz wz l f q;obtain⟨gs,cs,rfl⟩:=ey l (by omega);have OZ:=ae l;have ZP:=ae (bg (m.alloc (by have:=m.size;have:=g.i;omega) (N #[U t,U tx] 82)) f (by have:=m.size;have:=g.i;simp;omega) (λj e=>(ZW.lt j e).1));have f8:=(ZP.O (p:=(T X 0 Y)) x).k c8;have f9:=(ZP.O (p:=(T X 1 Y)) x).k c9;have y8:=(ZP.frozen (p:=(T X 0 Y)) x).k V.z0;obtain⟨r0,q0⟩:=(X4.aa ZP (by have:=g.i;have:=O.i;omega)).r0;obtain⟨r1,S⟩:=(X4.aa ZP (by have:=g.i;have:=O.i;omega)).r1;clear l f q));have ZQ:ik L ⟨t,tx⟩ t=ci L ⟨t,tx⟩ t (B L)++[⟨t,tx⟩]:=by unfold ik;rw[eI (by rw[<-ZT.i];simp)]
    have OF:Hid (wz.ownsRow u 82 2 (Z (Q (T gs 0 Y)) ((ci L ⟨t,tx⟩ t (B L)).length+1) cs) (B LS) (LS.flatMap bF)):=by show World.ownsRow _ _ _ _ _ _ _;rw[ZX.i,ZQ,cM,KE];simpa using OZ.i
    have fd:=g.i;have aq:=O.i;exact bp (v:=.tuple #[ZJ #[Z (Q (T gs 0 Y)) ((ci L ⟨t,tx⟩ t (B L)).length+1) cs,Z ta (B R) tc],J I 0]) (by simp[results,UM,go_sem,r0,r1]) rfl ⟨_,_,R,rfl,aE (aH (aH (aH OF (R:=X) (j:=0) (by omega) _) (R:=A (z w)+1) (j:=0) (by omega) _) (R:=A (z w)+1) (j:=1) (by omega) _) (by omega),iV (((RX _ ((n8.k (ZP.P (by omega))).setCell (p:=(T X 0 Y)) ly _)).set (X:=A (z w)+1) (j:=0) (by omega) _).set (X:=A (z w)+1) (j:=1) (by omega) _) (by omega),HM,(((B4.k (ZP.P (by omega))).setCell (by simp;omega) _).setCell (by simp) _).setCell (by simp) _⟩
def nF (a0:O_)(n0 c0:Nat)(f0:Nat->Source)(a1:O_)(n1 c1:Nat)(f1:Nat->Target)(t:F_)(w:E)(hn0:(n0:Int)<=1048576)(hn1:(n1:Int)<=1048576)(V:Qy w a0 n0 f0)(ZN:Qx w a1 n1 f1)(H:∀i,i<n1->aP (f1 i))(hs:∀i,i<n1->∀j,j<(f1 i).h->((f1 i).q j).s.size<=maxLen):Calls Tryz.prog 14 #[ZJ #[Z a0 n0 c0,Z a1 n1 c1],U t] w λe w'=>∃v0 v1 R,e=ZI (.tuple #[ZJ #[v0,v1],J I (ij n0 f0 n1 f1 t)])/\w'.ownsRow (A (z w)) 82 2 v0 (eB n0 f0 n1 f1 t).length ((eB n0 f0 n1 f1 t).flatMap bF)/\TRow w' (A (z w)) v1 R/\R.map (·.1)=fa n0 f0 n1 f1 t/\Below (A (z w)) w w':=by
 have V0:=ae V;have V1:=ae ZN;have HF:=ae H;have HS:=ae hs;clear V ZN H hs;obtain⟨C,hC⟩:∃C,C=aR n0 f0 n1 f1:=⟨_,rfl⟩
 obtain⟨D,P⟩:∃D,D=ij n0 f0 n1 f1 t:=⟨_,rfl⟩
 obtain⟨LS,ZW⟩:∃LS,LS=eB n0 f0 n1 f1 t:=⟨_,rfl⟩
 obtain⟨LT,G⟩:∃LT,LT=fa n0 f0 n1 f1 t:=⟨_,rfl⟩
 rw[<-P,<-ZW,<-G];have HC:=ae hC;have HD:=ae (P.k (by unfold ij;rw[<-hC]));have u:=ae (ZW.k (by unfold eB;rw[<-P]));have n:=ae (G.k (by unfold fa;rw[<-P]));clear hC P ZW G;obtain⟨W,O⟩:∃W:E,ZU (ZU w (N #[Z a0 n0 c0,Z a1 n1 c1] 29)) (N #[Z Y 0 0,Z Y 0 0] 29)=W:=⟨_,rfl⟩
 obtain⟨ZR,-,-,-⟩:=nb2 O;have ZL:=ae O;clear O;have S:=ae (uN w (Z a0 n0 c0) (Z a1 n1 c1) 29);go_enter Tryz.func14,Tryz.ntmps14;go_wp2_with fail;rw[ZL.i] at S ⊢;clear ZL;refine(eK a0 n0 c0 f0 a1 n1 c1 f1 _ hn0 hn1 (V0.aa ZR ly) (V1.aa ZR ly) HF HS).P ?_;rintro e w1⟨rfl,b⟩;rw[<-HC.i];have ZX:=ae (S.aa b S.lt');have ZO:=ae (ZR.k (b.P ZR.size));clear b ZR S;by_cases hc:C=0;case neg =>
  have h:=HD.i;rw[eT hc] at h;have f:=u.i;rw[eI (by omega)] at f;have g:=n.i;rw[eI (by omega)] at g;subst h f g;have hc':(C == 0)=ZA:=by simpa using hc
  obtain⟨r0,q0⟩:=ZX.r0;obtain⟨r1,q1⟩:=ZX.r1;go_wp2;exact bp (v:=.tuple #[ZJ #[Z Y 0 0,Z Y 0 0],J I 1]) (by simp[results,YK,go_sem,r0,r1]) rfl ⟨_,_,[],rfl,CP _ _ _ _,dq _ _,rfl,(ZO.setCell (by simp) _).setCell (by simp) _⟩
 subst hc;have hz:=lU HC.c;have HZ:=ae hz;clear hz HC;have ZY:=HD.i;rw[eI (by omega)] at ZY;have ZS:=ae ZY;clear ZY HD;go_wp2_with fail;refine(dl t _).P ?_;rintro e w2⟨rfl,b⟩;have m:=ae (ZX.aa b ZX.lt');have M:=ae (ZO.k (b.P ZO.size));clear b ZX ZO;cases hn:aA t with
 |false =>have h:=ZS.i;rw[eT hn] at h;have f:=u.i;rw[eI (by omega)] at f;have g:=n.i;rw[eI (by omega)] at g;subst h f g;clear hn;obtain⟨r0,q0⟩:=m.r0;obtain⟨r1,q1⟩:=m.r1;go_wp2;exact bp (v:=.tuple #[ZJ #[Z Y 0 0,Z Y 0 0],J I 2]) (by simp[results,YK,go_sem,r0,r1]) rfl ⟨_,_,[],rfl,CP _ _ _ _,dq _ _,rfl,(M.setCell (by simp) _).setCell (by simp) _⟩
 |true =>
  have K:=ZS.i;rw[eI (by simp[hn])] at K;have ZM:=ae K;clear K ZS hn;have L:=m.a0;have ZT:=m.a1;go_wp2_with fail;refine(uQ a0 n0 c0 a1 n1 c1 f0 t _ hn0 (V0.aa M ly)).P ?_;rintro e wS⟨r,rfl,o,b⟩;have x:=ae (m.aa b m.lt');have ZQ:=ae (M.k (b.P M.size));clear b m M L ZT;have L:=x.a0;have ZT:=x.a1;by_cases hr:r<0;focus
   have ZP:Hid (aF (nm0 f0) n0 t=ZA):=by show _=ZA;rw[<-o];simpa using hr
   clear o;go_wp2_with fail;refine(ni a0 n0 c0 a1 n1 c1 f1 t _ hn1 (V1.aa ZQ ly)).P ?_;rintro e w3⟨q,rfl,p,b⟩;have l:=ae (x.aa b x.lt');have y:=ae (ZQ.k (b.P ZQ.size));clear b x ZQ L ZT;have L:=l.a0;have ZT:=l.a1;by_cases hq:q<0
   ·have hi:(aF (nm0 f0) n0 t || aF (nm1 f1) n1 t)=ZA:=by rw[ZP.i,<-p];simpa using hq
    clear p;have h:=ZM.i;rw[eT hi] at h;have f:=u.i;rw[eI (by omega)] at f;have g:=n.i;rw[eI (by omega)] at g;subst h f g;obtain⟨r0,q0⟩:=l.r0;obtain⟨r1,q1⟩:=l.r1;go_wp2;exact bp (v:=.tuple #[ZJ #[Z Y 0 0,Z Y 0 0],J I 4]) (by simp[results,YK,go_sem,r0,r1]) rfl ⟨_,_,[],rfl,CP _ _ _ _,dq _ _,rfl,(y.setCell (by simp) _).setCell (by simp) _⟩
   have hi:(aF (nm0 f0) n0 t || aF (nm1 f1) n1 t)=ZH:=by rw[ZP.i,<-p];simpa using hq
   clear p
  rotate_left;focus
   have hi:(aF (nm0 f0) n0 t || aF (nm1 f1) n1 t)=ZH:=by rw[<-o];have:decide (0<=r)=ZH:=QD (by omega);rw[this];rfl
   clear o;have l:=x;have y:=ZQ
  all_goals
   have h:=ZM.i;rw[eI (by simp[hi])] at h;have f:=u.i;rw[eT h] at f;have g:=n.i;rw[eT h] at g;subst h f g;go_wp2_with fail;refine(fH a0 n0 c0 f0 a1 n1 c1 f1 t _ hn0 hn1 (V0.aa y ly) (V1.aa y ly) HF).P ?_;rintro e w4⟨v0,v1,R,rfl,hO,hR,hM,b⟩;have X4:=ae (l.aa b l.lt');have hlt4:=l.lt;have B4:=ae (y.k (b.P y.size));obtain⟨sa,sc,rfl⟩:=aJ hO;obtain⟨ta,tc,rfl⟩:=aJ hR.u;have O4:=ae (aE (aH (aH (R:=A (z w)+1) (j:=0) hO (by omega) (Z sa (Qz f0 t n0).length sc)) (R:=A (z w)+1) (j:=1) (by omega) (Z ta (B R) tc)) (base':=A (z w)) (by omega));have T4:=ae (iV ((hR.set (X:=A (z w)+1) (j:=0) (by omega) (Z sa (Qz f0 t n0).length sc)).set (X:=A (z w)+1) (j:=1) (by omega) (Z ta (B R) tc)) (base':=A (z w)) (by omega));have HM:=ae hM;clear hO hR b hM L ZT;obtain⟨r0,q0⟩:=X4.r0;obtain⟨r1,q1⟩:=X4.r1;go_wp2;exact bp (v:=.tuple #[ZJ #[Z sa (Qz f0 t n0).length sc,Z ta (B R) tc],J I 0]) (by simp[results,YK,go_sem,r0,r1]) rfl ⟨_,_,R,rfl,O4,T4,HM,(B4.setCell (by simp) _).setCell (by simp) _⟩
