import Derived.Test.YtcnilonhfpimnaaGreatDoorFQ
import Derived.Deep.RegionHeld
set_option linter.all false
set_option maxRecDepth 100000
set_option maxHeartbeats 8000000
open Go renaming Addr.mk->T,Value.slice->Y,Value.string->U,Value.int->J,Value.agg->ZJ,Obj.cells->N,IntKind.i64->I,World->E,Value->ZB,Ending.returned->ZI,World.heap->B,World.alloc->ZV,World.cell?->ZW,Act.put->p_
open Option renaming none->Z,some->Q
open Bool renaming false->ZA,true->ZH
open Array renaming size->A
open List renaming length->ZU
namespace Go.Proofs.YtcnilonhfpimnaaGreatDoor.Vp
section
variable {P:Program}{ops:Array Oper}{ZO:Exit->Act->E->Prop}{md:Region.Mode}{S:E->Prop}
def Bq {i:Nat}{b:Oper}{v:ZB}{k:Nat}{l:Array Bool}{a:Act}{w:E}(hi:ops.toList[i]?=Q b)(p:Region.noSelect ops=ZH)(n:Region.free md ops l i=ZH)(g:(Region.ready md ops l).contains i=ZH)
  (o:∀c a w,ZO (.panic c) (a.put b.dst v) w->ZO (.panic c) a w) (j:Region.wanted b (yielded ops a.tmps)=ZH) (m:∀w,S w->(execOp a.eval b).run P w=.ok (.value v) w) (f:S w)
  (h:wpAnyH P md ops ZO S k (l.setIfInBounds i ZH) (a.put b.dst v) w):wpAnyH P md ops ZO S (k+1) l a w:=by
 rw[NS] at hi;exact wpAnyH_take hi p n g o (.inl ⟨j,λw f=>m w f⟩) f h
def nxS:List Bool->Nat->Option Nat
 |[],_=>Z
 |true::l,j=>nxS l (j+1)
 |false::_,j=>Q j
def aN (j:Nat){i:Nat}{b:Oper}{v:ZB}{k:Nat}{l:Array Bool}{a:Act}{w:E}(_:nxS (l.toList.drop j) j=Q i)(hi:ops.toList[i]?=Q b)(f:(Region.noSelect ops && Region.free md ops l i && (Region.ready md ops l).contains i)=ZH)
  (o:∀c a w,ZO (.panic c) (a.put b.dst v) w->ZO (.panic c) a w) (m:Region.wanted b (yielded ops a.tmps)=ZH) (n:∀w,S w->(execOp a.eval b).run P w=.ok (.value v) w) (g:S w)
  (h:wpAnyH P md ops ZO S k (l.setIfInBounds i ZH) (a.put b.dst v) w):wpAnyH P md ops ZO S (k+1) l a w:=by
 simp only[j6] at f;exact Bq hi f.1.1 f.1.2 f.2 o m n g h
def aL {i:Nat}{o:Oper}{k:Nat}{l:Array Bool}{a:Act}{w:E}(f:ops.toList[i]?=Q o)(n:Region.ready md ops l=[i])
  (h:∀b:Act->E->Prop,Shut (∀a w,S w->wpAnyH P md ops ZO S k (l.setIfInBounds i ZH) a w->b a w)->if Region.wanted o (yielded ops a.tmps)=ZH then Oper.wp P o a w b ZO else b (a.put o.dst undef) w) :
  wpAnyH P md ops ZO S (k+1) l a w:=by
 rw[NS] at f;exact wpAnyH_ready n (WN _ _) (AllReadyH.cons f (λb g=>h b (λa w m j=>g a w m (λ_=>j))) AllReadyH.nil)
def li (j:Nat){i:Nat}{o:Oper}{k:Nat}{l:Array Bool}{a:Act}{w:E}(_:nxS (l.toList.drop j) j=Q i)(g:ops.toList[i]?=Q o)(f:Region.ready md ops l=[i])
  (h:∀b:Act->E->Prop,Shut (∀a w,S w->wpAnyH P md ops ZO S k (l.setIfInBounds i ZH) a w->b a w)->if Region.wanted o (yielded ops a.tmps)=ZH then Oper.wp P o a w b ZO else b (a.put o.dst undef) w) :
  wpAnyH P md ops ZO S (k+1) l a w:=aL g f h
def Br (j:Nat){i:Nat}{f:Oper}{k:Nat}{l:Array Bool}{a:Act}{w:E}(_:nxS (l.toList.drop j) j=Q i)(hi:ops.toList[i]?=Q f)(b:(Region.noSelect ops && Region.free md ops l i && (Region.ready md ops l).contains i)=ZH)
  (m:∀c a w,ZO (.panic c) (a.put f.dst undef) w->ZO (.panic c) a w) (g:Region.wanted f (yielded ops a.tmps)=ZA) (n:S w)
  (h:wpAnyH P md ops ZO S k (l.setIfInBounds i ZH) (a.put f.dst undef) w):wpAnyH P md ops ZO S (k+1) l a w:=by
 simp only[j6] at b;rw[NS] at hi;exact wpAnyH_take hi b.1.1 b.1.2 b.2 m (.inr ⟨g,rfl⟩) n h
end
end Go.Proofs.YtcnilonhfpimnaaGreatDoor.Vp
namespace Go.Proofs.YtcnilonhfpimnaaGreatDoor.Ca
section
variable {P:Program}{ops:Array Oper}{ZO:Exit->Act->E->Prop}{md:Region.Mode}{S:E->Prop}{n:Nat}
def dP (P:Program)(md:Region.Mode)(ops:Array Oper)(ZO:Exit->Act->E->Prop)(S:E->Prop)(n:Nat):Nat->Array Bool->Act->E->Prop
 |0,l,a,w=>Region.ready md ops l=[]/\ZO .normal a w
 |k+1,l,a,w=>(Region.ready md ops l=[]->ZO .normal a w)/\∀i∈Region.ready md ops l,wpOp P ops ZO i (λf b=>(i≠n->S b)/\dP P md ops ZO S n k (l.setIfInBounds i ZH) f b) a w
def uW:∀(k:Nat) (l:Array Bool) (a:Act) (w:E),dP P md ops ZO S n k l a w->wpAny P md ops ZO k l a w
 |0,_,_,_,h=>h
 |k+1,_,_,_,h=>⟨h.1,λi hi=>wpOp_mono (λb f x=>uW k _ b f x.2) (h.2 i hi)⟩
def waitsFor (md:Region.Mode)(ops:Array Oper)(n i:Nat):Bool:=match ops[n]? with
 |some o=>o.after.any λe=>Region.binds md e && e.on == i
 |none=>ZA
def Bs {i:Nat}{o:Oper}(h:waitsFor md ops n i=ZH)(f:ops[n]?=Q o)(hn:∀e∈o.after,Region.binds md e=ZH->e.on≠i):False:=by unfold waitsFor at h;simp only[f] at h;obtain⟨e,b,h2⟩:=Array.any_eq_true'.1 h;simp only[Bool.and_eq_true,beq_iff_eq] at h2;exact hn e b h2.1 h2.2
def zC {i:Nat}{p:Oper}{v:ZB}(hi:ops[i]?=Q p)(q:∀(j:Nat) (o:Oper) s b,ops[j]?=Q o->o.op≠.select s b)(ZP:∀c a w,ZO (.panic c) (a.put p.dst v) w->ZO (.panic c) a w)(M:waitsFor md ops n i=ZH):∀(k:Nat) (l:Array Bool) (a:Act) (w:E),(∀j g,ops[j]?=Q g->j≠i->l.getD j ZH=ZA->(∀e∈g.after,Region.binds md e=ZH->e.on≠i)->p.apart ops g=ZH) ->
   i∈Region.ready md ops l->YieldsIf P ops S p v a->S w->dP P md ops ZO S n k (l.setIfInBounds i ZH) (a.put p.dst v) w->dP P md ops ZO S n (k+1) l a w:=by
 intro k;induction k with
 |zero =>
  intro l a w _ t y r H;refine⟨λe=>absurd t (by rw[e];exact List.not_mem_nil),λj u=>?_⟩;rcases Decidable.em (j=i) with rfl|f;{exact y.wpOp hi r ⟨λ_=>r,H⟩};{exact absurd (ready_mono u f) (by rw[H.1];exact List.not_mem_nil)}
 |succ k O =>
  intro l a w K t y r H;refine⟨λe=>absurd t (by rw[e];exact List.not_mem_nil),λj u=>?_⟩;rcases Decidable.em (j=i) with rfl|f;{exact y.wpOp hi r ⟨λ_=>r,H⟩};{obtain⟨ZR,g,h,ZY⟩:=mem_ready.1 u;have z:∀e∈g.after,Region.binds md e=ZH->e.on≠i:=λe ZQ hb x=>(by have h1:=ZY e ZQ hb;have G:=(mem_ready.1 t).1;rw[x] at h1;rcases Nat.lt_or_ge i l.size with C|C;{simp[C] at G h1;rw[G] at h1;cases h1};{simp[Array.getElem?_eq_none C] at h1});have ZX:j≠n:=λe=>Bs M (e ▸ h) z;refine wpOp_mono (λV ZN x=>⟨λ_=>x.2.1 ZX,O _ V ZN (λm R W ZT L ZS=>K m R W ZT ?_ ZS) (ready_mono t (Ne.symm f)) x.1 (x.2.1 ZX) ?_⟩) (wpOp_putIf h (K j g h f ZR z) (λs b=>q i p s b hi) (λs b=>q j g s b h) ZP y (H.2 j (ready_mono u f)));{rcases Decidable.em (j=m) with rfl|D;{exact ZR};{rwa[getD_set_ne ZH D] at L}};{rw[Array.setIfInBounds_comm _ _ f];exact x.2.2}}
def fs {i:Nat}{b:Oper}{v:ZB}{k:Nat}{l:Array Bool}{a:Act}{w:E}(hi:ops.toList[i]?=Q b)(r:Region.noSelect ops=ZH)(p:Region.free md ops l i=ZH)(j:(Region.ready md ops l).contains i=ZH)(f:waitsFor md ops n i=ZH)
  (q:∀c a w,ZO (.panic c) (a.put b.dst v) w->ZO (.panic c) a w) (m:b.guard=Z) (o:∀w,S w->(execOp a.eval b).run P w=.ok (.value v) w) (g:S w)
  (h:dP P md ops ZO S n k (l.setIfInBounds i ZH) (a.put b.dst v) w):dP P md ops ZO S n (k+1) l a w:=by
 rw[Array.getElem?_toList] at hi;exact zC hi (Region.noSelect_spec r) q f k l a w (Region.free_spec hi p) (by simpa using j) (.inl ⟨by simp[Region.wanted,m],o⟩) g h
def nxA:List Bool->Nat->Option Nat
 |[],_=>Z
 |true::l,j=>nxA l (j+1)
 |false::_,j=>Q j
def aO (j:Nat){i:Nat}{b:Oper}{v:ZB}{k:Nat}{l:Array Bool}{a:Act}{w:E}(_:nxA (l.toList.drop j) j=Q i)(hi:ops.toList[i]?=Q b)(f:(Region.noSelect ops && Region.free md ops l i && (Region.ready md ops l).contains i && waitsFor md ops n i)=ZH)
  (p:∀c a w,ZO (.panic c) (a.put b.dst v) w->ZO (.panic c) a w) (m:b.guard=Z) (o:∀w,S w->(execOp a.eval b).run P w=.ok (.value v) w) (g:S w)
  (h:dP P md ops ZO S n k (l.setIfInBounds i ZH) (a.put b.dst v) w):dP P md ops ZO S n (k+1) l a w:=by
 simp only[Bool.and_eq_true] at f;exact fs hi f.1.1.1 f.1.1.2 f.1.2 f.2 p m o g h
def ai {i:Nat}{o:Oper}{k:Nat}{l:Array Bool}{a:Act}{w:E}(m:ops.toList[i]?=Q o)(g:Region.ready md ops l=[i])
  (h:∀b:Act->E->Prop,Shut (∀a w,(i≠n->S w)->dP P md ops ZO S n k (l.setIfInBounds i ZH) a w->b a w)->if Region.wanted o (yielded ops a.tmps)=ZH then Oper.wp P o a w b ZO else b (a.put o.dst undef) w) :
  dP P md ops ZO S n (k+1) l a w:=by
 rw[Array.getElem?_toList] at m;refine⟨λe=>absurd e (by rw[g];exact List.cons_ne_nil _ _),λj f=>?_⟩;rw[g] at f;obtain rfl:=List.mem_singleton.1 f;exact wpOp_step m λb p=>h b λa w r q=>p a w ⟨r,q⟩
def bV (j:Nat){i:Nat}{o:Oper}{k:Nat}{l:Array Bool}{a:Act}{w:E}(_:nxA (l.toList.drop j) j=Q i)(g:ops.toList[i]?=Q o)(f:Region.ready md ops l=[i])
  (h:∀b:Act->E->Prop,Shut (∀a w,(i≠n->S w)->dP P md ops ZO S n k (l.setIfInBounds i ZH) a w->b a w)->if Region.wanted o (yielded ops a.tmps)=ZH then Oper.wp P o a w b ZO else b (a.put o.dst undef) w) :
  dP P md ops ZO S n (k+1) l a w:=ai g f h
def ba {l:Array Bool}{a:Act}{w:E}(b:Region.ready md ops l=[])(h:ZO .normal a w)(k:Nat):dP P md ops ZO S n k l a w:=by
 cases k with
 |zero=>exact⟨b,h⟩
 |succ k=>exact⟨λ_=>h,by rw[b];intro i hi;cases hi⟩
def aI {id:Nat}{a:Act}{w:E}(S:E->Prop)(n:Nat)(b:P.follows .mixedOrders=ZH)(h:dP P .any ops ZO S n ops.size (Array.replicate ops.size ZA) a w.drew):(Code.region id ops ZH).wp P ZO a w:=
 wp_region_any b (uW _ _ _ _ h)
end
section
variable {P:Program}{ops:Array Oper}{ZO:Exit->Act->E->Prop}{md:Region.Mode}{S:E->Prop}{n:Nat}
def pu {i j:Nat}{f h:Oper}{k:Nat}{l:Array Bool}{a:Act}{w:E}(hi:ops.toList[i]?=Q f)(r:ops.toList[j]?=Q h)(s:Region.ready md ops l=[i,j])
  (h1:∀b:Act->E->Prop,Shut (∀a w,(i≠n->S w)->dP P md ops ZO S n k (l.setIfInBounds i ZH) a w->b a w)->if Region.wanted f (yielded ops a.tmps)=ZH then Oper.wp P f a w b ZO else b (a.put f.dst undef) w)
  (h2:∀b:Act->E->Prop,Shut (∀a w,(j≠n->S w)->dP P md ops ZO S n k (l.setIfInBounds j ZH) a w->b a w)->if Region.wanted h (yielded ops a.tmps)=ZH then Oper.wp P h a w b ZO else b (a.put h.dst undef) w) :
  dP P md ops ZO S n (k+1) l a w:=by
 rw[Array.getElem?_toList] at hi r;refine⟨λe=>absurd e (by rw[s];exact List.cons_ne_nil _ _),λm g=>?_⟩;rw[s] at g;rcases List.mem_cons.1 g with rfl|g;{exact wpOp_step hi λb o=>h1 b λa w p q=>o a w ⟨p,q⟩};{obtain rfl:=List.mem_singleton.1 g;exact wpOp_step r λb o=>h2 b λa w p q=>o a w ⟨p,q⟩}
end
end Go.Proofs.YtcnilonhfpimnaaGreatDoor.Ca
namespace Go.Proofs.YtcnilonhfpimnaaGreatDoor.Vp
section
variable {P:Program}{ops:Array Oper}{ZO:Exit->Act->E->Prop}{md:Region.Mode}{S:E->Prop}
def jQ {i j:Nat}{f g:Oper}{k:Nat}{l:Array Bool}{a:Act}{w:E}(hi:ops.toList[i]?=Q f)(o:ops.toList[j]?=Q g)(p:Region.ready md ops l=[i,j])
  (h1:∀b:Act->E->Prop,Shut (∀a w,S w->wpAnyH P md ops ZO S k (l.setIfInBounds i ZH) a w->b a w)->if Region.wanted f (yielded ops a.tmps)=ZH then Oper.wp P f a w b ZO else b (a.put f.dst undef) w)
  (h2:∀b:Act->E->Prop,Shut (∀a w,S w->wpAnyH P md ops ZO S k (l.setIfInBounds j ZH) a w->b a w)->if Region.wanted g (yielded ops a.tmps)=ZH then Oper.wp P g a w b ZO else b (a.put g.dst undef) w) :
  wpAnyH P md ops ZO S (k+1) l a w:=by
 rw[NS] at hi o;exact wpAnyH_ready p (WN _ _) (AllReadyH.cons hi (λb h=>h1 b (λa w m n=>h a w m (λ_=>n))) (AllReadyH.cons o (λb h=>h2 b (λa w m n=>h a w m (λ_=>n))) AllReadyH.nil))
end
open RowKit Ca
def fH (a0:O_)(n0 c0:Nat)(f0:Nat->Source)(a1:O_)(n1 c1:Nat)(f1:Nat->Target)(t:F_)(w:E)(hn0:(n0:Int)<=1048576)(hn1:(n1:Int)<=1048576)(ZQ:Qx w a0 n0 f0)(O:Qq w a1 n1 f1)(ZS:∀i,i<n1->aP (f1 i)):Calls Tryz.prog 42 #[ZJ #[Y a0 n0 c0,Y a1 n1 c1],U t] w λe X=>∃r s R,e=ZI (ZJ #[r,s])/\X.ownsRow (A (B w)+3) 82 2 r (Qy f0 t n0).length ((Qy f0 t n0).flatMap bF)/\TRow X (A (B w)+3) s R/\R.map (·.1)=Qj f1 t n1/\Below (A (B w)) w X:=by
 have V0:=ae ZQ;have V1:=ae O;have HF:=ae ZS;clear ZQ O ZS;obtain⟨n9,hi,n8,sm,At⟩:=NO jn;obtain⟨fd,hj,qr,S,aq⟩:=NO fw;have A0:=ae ((((BS w).alloc ly (N #[Y a0 n0 c0,Y a1 n1 c1] 29)).alloc (by simp) (N #[Y Z 0 0,Y Z 0 0] 29)).alloc (by simp;omega) (N #[Y Z 0 0,Y Z 0 0] 29));have X0:=ae (Bo w (Y a0 n0 c0) (Y a1 n1 c1) 29);go_enter Tryz.func42,Tryz.ntmps42;go_wp2;generalize ZV (ZV (ZV w (N #[Y a0 n0 c0,Y a1 n1 c1] 29)) (N #[Y Z 0 0,Y Z 0 0] 29)) (N #[Y Z 0 0,Y Z 0 0] 29)=W at A0 X0 ⊢;go_loopw [6] (λi wr=>∃(k:Nat) (r:ZB),k<=n0/\i=J I k/\Hid (Boxes wr (A (B w)) (Y a0 n0 c0) (Y a1 n1 c1) r (Y Z 0 0))/\Hid (wr.ownsRow (A (B w)+3) 82 2 r (Qy f0 t k).length ((Qy f0 t k).flatMap bF))/\Hid (Below (A (B w)) w wr)) (λi _=>n0 - (intOf i).toNat);case atStart=>exact⟨0,_,by omega,rfl,X0,CP _ _ _ _,A0⟩
 case round =>
  obtain⟨k,r,hk,rfl,f,D,q⟩:=hrel;have ZO:=f.lt;by_cases u:k<n0
  ·obtain⟨b,off,rfl,y⟩:=V0.resolve_left (by omega);obtain⟨d0,d1⟩:=(y.2 k u).aa q y.1;clear y;have hll:=gO f0 t k;have ZN:=f.a0;cases hq:((f0 k).e.toList == t.toList) with
   |true =>have C:=ae hq;go_wp2;exact⟨⟨k+1,r,by omega,by go_num,f,by show World.ownsRow _ _ _ _ _ _ _;rw[zu C.i];exact D,q⟩,by simp[intOf];omega⟩
   |false =>
    have C:=ae hq;obtain⟨x0,y0⟩:=f.o0;have z:=ae ((a8 (A (B w)+3) wr).drew.alloc (by simp;omega) (N #[U (f0 k).e,U (f0 k).H] 82));go_wp2_with fail
    go_region_law (first
     |(refine dR rfl (.tmp 25) (.tmp 31) 26 rfl (A (B w)+3) 82 n9 (ZJ #[U ⟨#[]⟩,U ⟨#[]⟩]) 2 32 QG hi n8 sm At rfl (by decide) r (Qy f0 t k).length ((Qy f0 t k).flatMap bF) (by simp[Act.eval]) (D.drew.alloc _) (T (A (B wr)) 0 Z) 1 1 (bF (f0 k)) (by simp[Act.eval]) rfl (df wr.drew _ _ _) (by simp[bF,Value.oneCell']) (by unfold maxLen;omega) (by omega) (by simp<;>omega) ?_;intro v' w2 n l ZX;obtain⟨gs,cs,rfl⟩:=ey n (by omega);have O2:=ae n;have B2:=ae (bg z l (by simp<;>omega) (λj e=>(D.lt j e).1));obtain⟨x2,y2⟩:=(f.aa B2 ly).o0;clear n l ZX))
    all_goals
     clear x0 y0 ZN;go_wp2;exact⟨⟨k+1,_,by omega,by go_num,(f.aa B2 ly).set0 _,by show World.ownsRow _ _ _ _ _ _ _;rw[zv C.i,cM,J1];simpa using aH O2.i (by omega) _,(q.k (B2.P (by omega))).setCell (by simp;omega) _⟩,by simp[intOf];omega⟩
  ·have e:n0=k:=by omega
   subst e;have ZN:=f.a0;have ZR:=f.a1;go_wp2;clear ZN ZR u hk;generalize wr=W1 at f D q ZO ⊢;go_loopw [7] (λi wr=>∃(k:Nat) (s:ZB) (R:List TR),k<=n1/\i=J I k/\Hid (Boxes wr (A (B w)) (Y a0 n0 c0) (Y a1 n1 c1) r s)/\Hid (wr.ownsRow (A (B w)+3) 82 2 r (Qy f0 t n0).length ((Qy f0 t n0).flatMap bF))/\Hid (TRow wr (A (B w)+3) s R)/\Hid (R.map (·.1)=Qj f1 t k)/\Hid (Below (A (B w)) w wr)) (λi _=>n1 - (intOf i).toNat);case atStart=>exact⟨0,_,[],by omega,rfl,f,D,dq _ _,rfl,q⟩
   case round =>
    clear f D q;obtain⟨k,s,R,hk,rfl,f,G,ZY,L,q⟩:=hrel;have hlt4:=f.lt;by_cases u:k<n1
    ·obtain⟨b,off,rfl,y⟩:=V1.resolve_left (by omega);obtain⟨d0,ZP,ZM,d1,hx⟩:=(y.2 k u).aa q ly y.1;have HX:=ae hx;have ro:=y.1;clear y hx;have hRl:ZU R<=1048576:=by have h1:=xT List.length L.i;have h2:=kf f1 t k;simp at h1;omega
     have ur:((f1 k).h:Int)<=1048576:=by have:=HF.i k u;unfold aP at this;omega
     have ZR:=f.a1;have ph:¬ b=A (B w)+1+1:=by omega
     have bt:¬ (A (B w))+1+1=b:=by omega
     have hbw:b<A (B wr):=lj ro q.size;cases hq:((f1 k).e.toList == t.toList) with
     |true =>have C:=ae hq;go_wp2;exact⟨⟨k+1,s,R,by omega,by go_num,f,G,ZY,by show _=Qj f1 t (k+1);rw[zx C.i];exact L,q⟩,by simp[intOf];omega⟩
     |false =>
      have C:=ae hq;have ST:Hid (∀V,Below (A (B w)+3) wr V->(ZW V (T (A (B w)+1+1) 1 Z)=Q s/\(A (B w))+1+1<A (B V))/\(ZW V (T (A (B w)) 1 Z)=Q (Y (Q (T b off Z)) n1 c1)/\(A (B w))<A (B V))/\ZW V (T b (off+k*2) Z)=Q (U (f1 k).e)/\ZW V (T b (off+k*2+1) Z)=Q (Y ZP (f1 k).h ZM)/\b<A (B V)):=λV M=>by have hz:=M.size;have h:=f.aa M ly;exact⟨⟨h.o1.1,by have:=h.lt;omega⟩,⟨h.a1,by have:=h.lt;omega⟩,(M.O (p:=(T b (off+k*2) Z)) (by show b<A (B w)+3;omega)).k d0,(M.O (p:=(T b (off+k*2+1) Z)) (by show b<A (B w)+3;omega)).k d1,by omega⟩
      have z:=ae (BS wr).drew;have hki:(k:Int)<(n1:Int):=by omega
      go_wp2_with fail;refine aI (λV=>(ZW V (T (A (B w)+1+1) 1 Z)=Q s/\(A (B w))+1+1<A (B V))/\(ZW V (T (A (B w)) 1 Z)=Q (Y (Q (T b off Z)) n1 c1)/\(A (B w))<A (B V))/\ZW V (T b (off+k*2) Z)=Q (U (f1 k).e)/\ZW V (T b (off+k*2+1) Z)=Q (Y ZP (f1 k).h ZM)/\b<A (B V)) 19 (by kernel_rfl) ?_;have o:=ae (ST _ (z.P (by omega)));clear ZR d0 d1 ph bt;generalize wr.drew=v2 at z o ⊢;iterate 14
       refine aO 0 (v:=?_) rfl rfl (by kernel_rfl) (λ_ _ _ h=>h) rfl ?_ o ?_;rotate_left
       ·(intro wz mv;obtain⟨⟨s0,s1⟩,⟨s2,s3⟩,s4,s5,s6⟩:=mv;go_simp)
        (try with_reducible rfl)
       (try simp only[p_,z_])
      refine ai (i:=14) rfl (by kernel_rfl) λK m=>?_;go_simp;go_at_call 44;refine(jf ZP (f1 k).h ZM (f1 k).q _ ur (HX.aa z ly)).P ?_;rintro e wC⟨g,c,rfl,ZL,hB⟩;have DC:=ae (z.k (hB.P z.size));have th:=DC.size;have la:=(cV ZL).1;have hz1:=z.size;have OC:=ae (aE ZL (base':=A (B w)+3) (by omega));have ex:A (B wr)<=g:=by omega
      clear hB ZL la o;have o:=ae (ST _ (DC.P (by omega)));refine m _ _ (λ_=>o) ?_;clear m K
      (try simp only[p_,z_])
      refine ai (i:=15) rfl (by kernel_rfl) λK m=>?_;go_simp;refine m _ _ (λ_=>o) ?_;clear m K o
      (try simp only[p_,z_])
      have H:=ae (DC.alloc th (N #[U (f1 k).e,Y (Q (T g 0 Z)) (f1 k).h c] 86));have o:=ae (ST _ (H.P (by omega)));refine ai (i:=16) rfl (by kernel_rfl) λK m=>?_;go_simp;refine m _ _ (λ_=>o) ?_;clear m K o
      (try simp only[p_,z_])
      refine ai (i:=17) rfl (by kernel_rfl) λK m=>?_;refine dR rfl (.tmp 50) (.tmp 65) 27 rfl (A (B w)+3) 86 fd (ZJ #[U ⟨#[]⟩,Y Z 0 0]) 2 40 OJ hj qr S aq rfl (by decide) s (ZU R) (R.flatMap aZ) (by simp[Act.eval]) ((ZY.aa DC ly).u.alloc _) (T (A (B wC)) 0 Z) 1 1 (aZ (f1 k,g,c)) (by simp[Act.eval]) rfl (df wC _ _ _) (by simp[aZ,Value.oneCell']) (by unfold maxLen;omega) (by omega) (by simp;omega) ?_;intro v' w2 n l ZX;obtain⟨gs,cs,rfl⟩:=ey n (by omega);have T2:=ae (ZY.more (x:=f1 k) (g:=g) (c:=c) H ex (by omega) (OC.alloc _) n l);have P:=ae (bg (H.P (show (A (B w))+3<=A (B wr) by omega)) l (by simp;omega) (λj e=>(ZY.u.lt j e).1));have ld:=ae ((J_ G H ly).kept l (Bn (J_ G H ly) ((ZY.aa DC ly).u.alloc _) (by decide)));have ZT:=ae (f.aa P ly);obtain⟨x2,y2⟩:=ZT.o1;have hz2:=ZT.lt;have o:=ae (ST _ P);clear n l ZX;refine m _ _ (λ_=>o) ?_;clear m K
      (try simp only[p_,z_])
      refine ai (i:=18) rfl (by kernel_rfl) λK m=>?_;go_simp;refine m _ _ (λ_=>o) ?_;clear m K
      (try simp only[p_,z_])
      have hz3:A (B w)+1+1<A (B w2):=by omega
      refine ai (i:=19) rfl (by kernel_rfl) λK m=>?_;go_simp;refine m _ _ (λh=>absurd rfl h) ?_;clear m K o
      (try simp only[p_,z_])
      refine ba (by kernel_rfl) ?_ _;clear x2 y2;go_wp2;exact⟨⟨k+1,_,R++[(f1 k,g,c)],by omega,by go_num,ZT.set1 _,aH ld (by omega) _,T2.set (by omega) _,by show _=Qj f1 t (k+1);rw[zy C.i,ND,L.i];rfl,(q.k (P.P (by omega))).setCell (by simp;omega) _⟩,by simp[intOf];omega⟩
    ·have e:n1=k:=by omega
     subst e;have ZR:=f.a1;obtain⟨sa,sc,rfl⟩:=aJ G;obtain⟨ta,tc,rfl⟩:=aJ ZY.u;obtain⟨r0,q0⟩:=f.r0;obtain⟨r1,q1⟩:=f.r1;obtain⟨m0,_⟩:=f.o0;obtain⟨m1,_⟩:=f.o1;go_wp2;exact bp (v:=ZJ #[Y sa _ sc,Y ta _ tc]) (by simp[results,Tryz.results42,go_sem,r0,r1]) rfl ⟨_,_,R,rfl,aH (aH G (by omega) _) (by omega) _,(ZY.set (by omega) _).set (by omega) _,L,(q.setCell (by simp) _).setCell (by simp) _⟩
def nE (a0:O_)(n0 c0:Nat)(f0:Nat->Source)(a1:O_)(n1 c1:Nat)(f1:Nat->Target)(t tx:F_)(w:E)(hn0:(n0:Int)<=1048576)(hn1:(n1:Int)<=1048576)(DQ:Qx w a0 n0 f0)(Fd:Qq w a1 n1 f1)(n8:∀i,i<n1->aP (f1 i))(hs:∀i,i<n1->∀j,j<(f1 i).h->((f1 i).q j).s.size<=maxLen):Calls Tryz.prog 12 #[ZJ #[Y a0 n0 c0,Y a1 n1 c1],U t,U tx] w λe S=>∃v0 v1 R,e=ZI (.tuple #[ZJ #[v0,v1],J I (iC n0 f0 n1 f1 t tx)])/\S.ownsRow (A (B w)) 82 2 v0 (eZ n0 f0 n1 f1 t tx).length ((eZ n0 f0 n1 f1 t tx).flatMap bF)/\TRow S (A (B w)) v1 R/\R.map (·.1)=fC n0 f0 n1 f1 t tx/\Below (A (B w)) w S:=by
 have V0:=ae DQ;have V1:=ae Fd;have HF:=ae n8;have HS:=ae hs;clear DQ Fd n8 hs;obtain⟨P,O,ZR,G,M⟩:=NO jn;obtain⟨C,hC⟩:∃C,C=aR n0 f0 n1 f1:=⟨_,rfl⟩
 obtain⟨D,hD⟩:∃D,D=iC n0 f0 n1 f1 t tx:=⟨_,rfl⟩
 obtain⟨LS,ur⟩:∃LS,LS=eZ n0 f0 n1 f1 t tx:=⟨_,rfl⟩
 obtain⟨LT,sm⟩:∃LT,LT=fC n0 f0 n1 f1 t tx:=⟨_,rfl⟩
 rw[<-hD,<-ur,<-sm];have HC:=ae hC;have HD:=ae (hD.k (by unfold iC;rw[<-hC]));have x:=ae (ur.k (by unfold eZ;rw[<-hD]));have fd:=ae (sm.k (by unfold fC;rw[<-hD]));clear hC hD ur sm;obtain⟨W,At⟩:∃W:E,ZV (ZV w (N #[Y a0 n0 c0,Y a1 n1 c1] 29)) (N #[Y Z 0 0,Y Z 0 0] 29)=W:=⟨_,rfl⟩
 obtain⟨A0,-,-,-⟩:=nb2 At;have Bk:=ae At;clear At;have X0:=ae (uN w (Y a0 n0 c0) (Y a1 n1 c1) 29);go_enter Tryz.func12,Tryz.ntmps12;go_wp2_with fail;rw[Bk.i] at X0 ⊢;clear Bk;refine(eK a0 n0 c0 f0 a1 n1 c1 f1 _ hn0 hn1 (V0.aa A0 ly) (V1.aa A0 ly) HF HS).P ?_;rintro e w1⟨rfl,z⟩;rw[<-HC.i];have X1:=ae (X0.aa z X0.lt');have B1:=ae (A0.k (z.P A0.size));clear z A0 X0;by_cases hc:C=0;case neg =>
  have hd:=HD.i;rw[eT hc] at hd;have r:=x.i;rw[eI (by omega)] at r;have o:=fd.i;rw[eI (by omega)] at o;subst hd r o;have hc':(C == 0)=ZA:=by simpa using hc
  obtain⟨r0,q0⟩:=X1.r0;obtain⟨r1,ZM⟩:=X1.r1;go_wp2;exact bp (v:=.tuple #[ZJ #[Y Z 0 0,Y Z 0 0],J I 1]) (by simp[results,UM,go_sem,r0,r1]) rfl ⟨_,_,[],rfl,CP _ _ _ _,dq _ _,rfl,(B1.setCell (by simp) _).setCell (by simp) _⟩
 subst hc;have hz:=lU HC.c;have HZ:=ae hz;clear hz HC;have mv:=HD.i;rw[eI (by omega)] at mv;have qr:=ae mv;clear mv HD;go_wp2_with fail;refine(dl t _).P ?_;rintro e w2⟨rfl,z⟩;have ZS:=ae (X1.aa z X1.lt');have ZL:=ae (B1.k (z.P B1.size));clear z X1 B1;by_cases n:aA t=ZA\/2000<(tx.size:Int)
 ·have hd:=qr.i;rw[eT n] at hd;have r:=x.i;rw[eI (by omega)] at r;have o:=fd.i;rw[eI (by omega)] at o;subst hd r o;obtain⟨r0,q0⟩:=ZS.r0;obtain⟨r1,ZM⟩:=ZS.r1;cases hn:aA t with
  |false =>clear n;go_wp2;exact bp (v:=.tuple #[ZJ #[Y Z 0 0,Y Z 0 0],J I 2]) (by simp[results,UM,go_sem,r0,r1]) rfl ⟨_,_,[],rfl,CP _ _ _ _,dq _ _,rfl,(ZL.setCell (by simp) _).setCell (by simp) _⟩
  |true =>have GS:(2000:Int)<tx.size:=n.resolve_left (by simp[hn]);clear n;go_wp2;exact bp (v:=.tuple #[ZJ #[Y Z 0 0,Y Z 0 0],J I 2]) (by simp[results,UM,go_sem,r0,r1]) rfl ⟨_,_,[],rfl,CP _ _ _ _,dq _ _,rfl,(ZL.setCell (by simp) _).setCell (by simp) _⟩
 have ro:=qr.i;rw[eI n] at ro;have Fk:=ae ro;have hn:aA t=ZH:=by
  cases h:aA t with
  |true=>rfl
  |false=>exact absurd (.inl h) n
 have GS:¬ (2000:Int)<tx.size:=λh=>n (.inr h);clear ro qr n;have k0:=ZS.a0;have k1:=ZS.a1;rw[hn];go_wp2_with fail;refine(fH a0 n0 c0 f0 a1 n1 c1 f1 t _ hn0 hn1 (V0.aa ZL ly) (V1.aa ZL ly) HF).P ?_;rintro e w3⟨v0,v1,R,rfl,hO,hR,hM,z⟩;have hlt2:=ZS.lt;have X3:=ae (ZS.aa z ZS.lt');have B3:=ae (ZL.k (z.P ZL.size));obtain⟨sa,sc,rfl⟩:=aJ hO;obtain⟨ta,tc,rfl⟩:=aJ hR.u;have eR:ZU R=(Qj f1 t n1).length:=by rw[<-hM];simp
 have Hx:=gO f0 t n0;have Id:=kf f1 t n1;obtain⟨L,hL⟩:∃L,L=Qy f0 t n0:=⟨_,rfl⟩
 obtain⟨K,hK⟩:∃K,K=Qj f1 t n1:=⟨_,rfl⟩
 rw[<-hL] at hO Hx ⊢;rw[<-hK] at hM Id eR;have ZY:=Fk.i;rw[<-hL,<-hK] at ZY;have r:=x.i;rw[<-hL] at r;have o:=fd.i;rw[<-hK] at o;have ER:=ae eR;have hlr:ZU R<=n1:=by omega
 clear Fk x fd hL hK z k0 k1 hn ZS ZL eR;have O3:=ae (aE hO (base':=A (B w)) (by omega));have RX:Hid (∀S,Below (A (B w3)) w3 S->TRow S (A (B w2)+3) (Y ta (ZU R) tc) R):=λS hb=>hR.aa hb ly;have HM:=ae hM;have hll:(ZU L:Int)<=1048576:=by omega
 clear hO hR hM;obtain⟨w4,ZN⟩:∃W:E,ZV w3 (N #[Y sa (ZU L) sc,Y ta (ZU R) tc] 29)=W:=⟨_,rfl⟩
 obtain⟨DB,-,ld⟩:=nb1 ZN;have n9:=ae ZN;clear ZN;have V:=ae (uS w3 (Y sa (ZU L) sc) (Y ta (ZU R) tc) 29);have X4:=ae (X3.aa DB X3.lt');have B4:=ae (B3.k (DB.P B3.size));have O4:=ae (J_ O3 DB ly);have ph:=ae DB.i;have DE:A (B w)+1<A (B w3):=X3.lt;have c8:=V.c0;have c9:=V.c1;clear O3 DB;by_cases hc3:(200:Int)<=ZU L+ZU R;{rw[eT (by have:=ER.i;omega)] at ZY;rw[eI (by omega)] at r o;subst ZY r o;obtain⟨r0,q0⟩:=X3.r0;obtain⟨r1,ZM⟩:=X3.r1;clear c8 c9;go_wp2;exact bp (v:=.tuple #[ZJ #[Y Z 0 0,Y Z 0 0],J I 3]) (by simp[results,UM,go_sem,r0,r1,DE]) rfl ⟨_,_,[],rfl,CP _ _ _ _,dq _ _,rfl,((B3.setCell (by simp) _).setCell (by simp) _).alloc (by have:=B3.size;simp;omega) _⟩};clear X3 B3;rw[eI (by have:=ER.i;omega)] at ZY;rw[eT ZY] at r o;subst ZY o;have x:=ae r;clear r;go_wp2;rw[n9.i] at V c8 c9 ⊢;clear n9;generalize (A (B w3))=X at V c8 c9 DE ld RX ph ⊢;obtain⟨u,th⟩:∃u,u=A (B w4):=⟨_,rfl⟩
 have E0:Hid (Below u w4 (ZV w4 (N #[] 82))):=by rw[th];exact br.alloc ly _
 have W0:Hid ((ZV w4 (N #[] 82)).ownsRow u 82 2 (Y (Q (T (X+1) 0 Z)) 0 0) 0 []):=by rw[<-ld];exact OU w4 #[] 0 (by omega) (by unfold maxLen;omega) rfl
 have y:X<u:=by have:=V.lt;omega
 have g:=ae th;have H:=ae ld;clear th ld;go_loopw [9,10,11] (λv d i wr=>∃(k:Nat) (db:Bool),k<=ZU L/\i=J I k/\d=.bool db/\Hid (db=dD L t k)/\Hid (wr.ownsRow u 82 2 v (ci L ⟨t,tx⟩ t k).length ((ci L ⟨t,tx⟩ t k).flatMap bF))/\Hid (Below u w4 wr)) (λ_ _ i _=>ZU L - (intOf i).toNat);case atStart=>exact⟨0,ZA,by omega,rfl,rfl,rfl,W0,E0⟩
 case round =>
  obtain⟨k,db,hk,rfl,rfl,ZT,ZX,m⟩:=hrel;have e8:=(m.O (p:=(T X 0 Z)) y).k c8;have Fm:=sI L ⟨t,tx⟩ t k;obtain⟨hlen1,ex⟩:=Fm;have HL2:=ae ex;clear ex;by_cases o:k<ZU L
  ·obtain⟨b,off,rfl,hr⟩:=(kZ O4).resolve_left (by omega);obtain⟨p0,p1⟩:=hr.2 k o;have aq:b<u:=by have:=hr.1;have:=g.i;omega
   have d0:=(m.O (p:=(T b (off+k*2) Z)) aq).k p0;have d1:=(m.O (p:=(T b (off+k*2+1) Z)) aq).k p1;clear hr;cases db with
   |true =>
    have HI:Hid (ci L ⟨t,tx⟩ t (k+1)=ci L ⟨t,tx⟩ t k++[aV L k]):=by show(if _ then _ else _)=_;rw[eI (by rw[<-ZT.i];simp)]
    have HN:Hid (ZH=dD L t (k+1)):=by show ZH=(dD L t k || _);rw[<-ZT.i];rfl
    go_wp2_with (at_builtin;(refine DN _ rfl (.tmp 63) (.tmp 69) 26 rfl u 82 P (ZJ #[U ⟨#[]⟩,U ⟨#[]⟩]) 2 32 QG O ZR G M rfl (by decide) _ (ci L ⟨t,tx⟩ t k).length ((ci L ⟨t,tx⟩ t k).flatMap bF) (by simp[Act.eval]) (ZX.alloc _) (T (A (B wr)) 0 Z) 1 1 (bF (aV L k)) (by simp[Act.eval]) rfl (df wr _ _ _) (by simp[bF,Value.oneCell']) (by unfold maxLen;omega) (by omega) (by have:=m.size;have:=g.i;simp;omega) ?_;intro vy wy l f q;have OY:=ae l;have BY:=ae (bg (m.alloc (by have:=m.size;have:=g.i;omega) (N #[U (aV L k).e,U (aV L k).H] 82)) f (by have:=m.size;have:=g.i;simp;omega) (λj e=>(ZX.lt j e).1));clear l f q));exact⟨⟨k+1,ZH,by omega,by go_num,rfl,HN,by show World.ownsRow _ _ _ _ _ _ _;rw[HI.i,cM,J1];simpa using OY.i,BY⟩,by simp[intOf];omega⟩
   |false =>
    cases hq:aC t (aV L k).e with
    |true =>
     have HI:Hid (ci L ⟨t,tx⟩ t (k+1)=ci L ⟨t,tx⟩ t k++[⟨t,tx⟩]++[aV L k]):=by show(if _ then _ else _)=_;rw[eT ⟨ZT.c,hq⟩]
     have HN:Hid (ZH=dD L t (k+1)):=by show ZH=(dD L t k || _);rw[hq];simp
     obtain⟨ZM,q2⟩:=iW hq;clear hq;go_wp2_with (at_builtin;first|(refine DN _ rfl (.tmp 57) (.tmp 61) 26 rfl u 82 P (ZJ #[U ⟨#[]⟩,U ⟨#[]⟩]) 2 32 QG O ZR G M rfl (by decide) _ (ci L ⟨t,tx⟩ t k).length ((ci L ⟨t,tx⟩ t k).flatMap bF) (by simp[Act.eval]) (ZX.alloc _) (T (A (B wr)) 0 Z) 1 1 (bF ⟨t,tx⟩) (by simp[Act.eval]) rfl (df wr _ _ _) (by simp[bF,Value.oneCell']) (by unfold maxLen;omega) (by omega) (by have:=m.size;have:=g.i;simp;omega) ?_;intro vx wx l f q;have OX:=ae l;have ZO:=ae (bg (m.alloc (by have:=m.size;have:=g.i;omega) (N #[U t,U tx] 82)) f (by have:=m.size;have:=g.i;simp;omega) (λj e=>(ZX.lt j e).1));have f8:=(ZO.O (p:=(T X 0 Z)) y).k c8;have g0:=(ZO.O (p:=(T b (off+k*2) Z)) aq).k p0;have g1:=(ZO.O (p:=(T b (off+k*2+1) Z)) aq).k p1;clear l f q)|(refine DN _ rfl (.tmp 63) (.tmp 69) 26 rfl u 82 P (ZJ #[U ⟨#[]⟩,U ⟨#[]⟩]) 2 32 QG O ZR G M rfl (by decide) _ ((ci L ⟨t,tx⟩ t k).length+1) ((ci L ⟨t,tx⟩ t k).flatMap bF++bF ⟨t,tx⟩) (by simp[Act.eval]) (OX.alloc _) (T (A (B wx)) 0 Z) 1 1 (bF (aV L k)) (by simp[Act.eval]) rfl (df wx _ _ _) (by simp[bF,Value.oneCell']) (by unfold maxLen;omega) (by omega) (by have:=ZO.size;have:=g.i;simp;omega) ?_;intro vy wy l f q;have OY:=ae l;have BY:=ae (bg (ZO.alloc (by have:=ZO.size;have:=g.i;omega) (N #[U (aV L k).e,U (aV L k).H] 82)) f (by have:=ZO.size;have:=g.i;simp;omega) (λj e=>(OX.lt j e).1));clear l f q));exact⟨⟨k+1,ZH,by omega,by go_num,rfl,HN,by show World.ownsRow _ _ _ _ _ _ _;rw[HI.i,cM,cM,J1,J1];simpa using OY.i,BY⟩,by simp[intOf];omega⟩
    |false =>
     have HI:Hid (ci L ⟨t,tx⟩ t (k+1)=ci L ⟨t,tx⟩ t k++[aV L k]):=by show(if _ then _ else _)=_;rw[eI (by rw[hq];simp)]
     have HN:Hid (ZA=dD L t (k+1)):=by show ZA=(dD L t k || _);rw[<-ZT.i,hq];rfl
     have HQ:=ae (jN hq);clear hq;rcases HQ.i with ZM|⟨ZM,q2⟩
     all_goals
      go_wp2_with (at_builtin;(refine DN _ rfl (.tmp 63) (.tmp 69) 26 rfl u 82 P (ZJ #[U ⟨#[]⟩,U ⟨#[]⟩]) 2 32 QG O ZR G M rfl (by decide) _ (ci L ⟨t,tx⟩ t k).length ((ci L ⟨t,tx⟩ t k).flatMap bF) (by simp[Act.eval]) (ZX.alloc _) (T (A (B wr)) 0 Z) 1 1 (bF (aV L k)) (by simp[Act.eval]) rfl (df wr _ _ _) (by simp[bF,Value.oneCell']) (by unfold maxLen;omega) (by omega) (by have:=m.size;have:=g.i;simp;omega) ?_;intro vy wy l f q;have OY:=ae l;have BY:=ae (bg (m.alloc (by have:=m.size;have:=g.i;omega) (N #[U (aV L k).e,U (aV L k).H] 82)) f (by have:=m.size;have:=g.i;simp;omega) (λj e=>(ZX.lt j e).1));clear l f q));exact⟨⟨k+1,ZA,by omega,by go_num,rfl,HN,by show World.ownsRow _ _ _ _ _ _ _;rw[HI.i,cM,J1];simpa using OY.i,BY⟩,by simp[intOf];omega⟩
  ·have e:ZU L=k:=by omega
   subst e;cases db with
   |true =>
    have ZQ:ik L ⟨t,tx⟩ t=ci L ⟨t,tx⟩ t (ZU L):=by unfold ik;rw[eT ZT.c]
    obtain⟨va,vc,rfl⟩:=aJ ZX;have OF:Hid (wr.ownsRow u 82 2 (Y va (ci L ⟨t,tx⟩ t (ZU L)).length vc) (ZU LS) (LS.flatMap bF)):=by show World.ownsRow _ _ _ _ _ _ _;rw[x.i,ZQ];exact ZX
    have la:=g.i;have bt:=H.i;have H1:=ae la;have H2:=ae bt;have H3:=ae ZQ;have e9:=(m.O (p:=(T X 1 Z)) y).k c9;have y8:=(m.frozen (p:=(T X 0 Z)) y).k V.z0;obtain⟨r0,q0⟩:=(X4.aa m (by omega)).r0;obtain⟨r1,ZM⟩:=(X4.aa m (by omega)).r1;clear la bt ZQ;go_wp2;have la:=g.i;have bt:=H.i;exact bp (v:=.tuple #[ZJ #[Y va (ci L ⟨t,tx⟩ t (ZU L)).length vc,Y ta (ZU R) tc],J I 0]) (by simp[results,UM,go_sem,r0,r1]) rfl ⟨_,_,R,rfl,aE (aH (aH (aH OF (R:=X) (j:=0) (by omega) _) (R:=A (B w)+1) (j:=0) (by omega) _) (R:=A (B w)+1) (j:=1) (by omega) _) (by omega),iV (((RX _ ((ph.k (m.P (by omega))).setCell (p:=(T X 0 Z)) ly _)).set (X:=A (B w)+1) (j:=0) (by omega) _).set (X:=A (B w)+1) (j:=1) (by omega) _) (by omega),HM,(((B4.k (m.P (by omega))).setCell (by simp;omega) _).setCell (by simp) _).setCell (by simp) _⟩
   |false =>
    go_wp2_with (at_builtin;(refine DN _ rfl (.tmp 73) (.tmp 77) 26 rfl u 82 P (ZJ #[U ⟨#[]⟩,U ⟨#[]⟩]) 2 32 QG O ZR G M rfl (by decide) _ (ci L ⟨t,tx⟩ t (ZU L)).length ((ci L ⟨t,tx⟩ t (ZU L)).flatMap bF) (by simp[Act.eval]) (ZX.alloc _) (T (A (B wr)) 0 Z) 1 1 (bF ⟨t,tx⟩) (by simp[Act.eval]) rfl (df wr _ _ _) (by simp[bF,Value.oneCell']) (by unfold maxLen;omega) (by omega) (by have:=m.size;have:=g.i;simp;omega) ?_;intro vz wz l f q;obtain⟨gs,cs,rfl⟩:=ey l (by omega);have OZ:=ae l;have ZP:=ae (bg (m.alloc (by have:=m.size;have:=g.i;omega) (N #[U t,U tx] 82)) f (by have:=m.size;have:=g.i;simp;omega) (λj e=>(ZX.lt j e).1));have f8:=(ZP.O (p:=(T X 0 Z)) y).k c8;have f9:=(ZP.O (p:=(T X 1 Z)) y).k c9;have y8:=(ZP.frozen (p:=(T X 0 Z)) y).k V.z0;obtain⟨r0,q0⟩:=(X4.aa ZP (by have:=g.i;have:=H.i;omega)).r0;obtain⟨r1,ZM⟩:=(X4.aa ZP (by have:=g.i;have:=H.i;omega)).r1;clear l f q));have ZQ:ik L ⟨t,tx⟩ t=ci L ⟨t,tx⟩ t (ZU L)++[⟨t,tx⟩]:=by unfold ik;rw[eI (by rw[<-ZT.i];simp)]
    have OF:Hid (wz.ownsRow u 82 2 (Y (Q (T gs 0 Z)) ((ci L ⟨t,tx⟩ t (ZU L)).length+1) cs) (ZU LS) (LS.flatMap bF)):=by show World.ownsRow _ _ _ _ _ _ _;rw[x.i,ZQ,cM,J1];simpa using OZ.i
    have la:=g.i;have bt:=H.i;exact bp (v:=.tuple #[ZJ #[Y (Q (T gs 0 Z)) ((ci L ⟨t,tx⟩ t (ZU L)).length+1) cs,Y ta (ZU R) tc],J I 0]) (by simp[results,UM,go_sem,r0,r1]) rfl ⟨_,_,R,rfl,aE (aH (aH (aH OF (R:=X) (j:=0) (by omega) _) (R:=A (B w)+1) (j:=0) (by omega) _) (R:=A (B w)+1) (j:=1) (by omega) _) (by omega),iV (((RX _ ((ph.k (ZP.P (by omega))).setCell (p:=(T X 0 Z)) ly _)).set (X:=A (B w)+1) (j:=0) (by omega) _).set (X:=A (B w)+1) (j:=1) (by omega) _) (by omega),HM,(((B4.k (ZP.P (by omega))).setCell (by simp;omega) _).setCell (by simp) _).setCell (by simp) _⟩
def nF (a0:O_)(n0 c0:Nat)(f0:Nat->Source)(a1:O_)(n1 c1:Nat)(f1:Nat->Target)(t:F_)(w:E)(hn0:(n0:Int)<=1048576)(hn1:(n1:Int)<=1048576)(ZP:Qx w a0 n0 f0)(V:Qq w a1 n1 f1)(ZS:∀i,i<n1->aP (f1 i))(hs:∀i,i<n1->∀j,j<(f1 i).h->((f1 i).q j).s.size<=maxLen):Calls Tryz.prog 14 #[ZJ #[Y a0 n0 c0,Y a1 n1 c1],U t] w λe w'=>∃v0 v1 R,e=ZI (.tuple #[ZJ #[v0,v1],J I (ij n0 f0 n1 f1 t)])/\w'.ownsRow (A (B w)) 82 2 v0 (eB n0 f0 n1 f1 t).length ((eB n0 f0 n1 f1 t).flatMap bF)/\TRow w' (A (B w)) v1 R/\R.map (·.1)=fa n0 f0 n1 f1 t/\Below (A (B w)) w w':=by
 have V0:=ae ZP;have V1:=ae V;have HF:=ae ZS;have HS:=ae hs;clear ZP V ZS hs;obtain⟨C,hC⟩:∃C,C=aR n0 f0 n1 f1:=⟨_,rfl⟩
 obtain⟨D,H⟩:∃D,D=ij n0 f0 n1 f1 t:=⟨_,rfl⟩
 obtain⟨LS,L⟩:∃LS,LS=eB n0 f0 n1 f1 t:=⟨_,rfl⟩
 obtain⟨LT,ZX⟩:∃LT,LT=fa n0 f0 n1 f1 t:=⟨_,rfl⟩
 rw[<-H,<-L,<-ZX];have HC:=ae hC;have HD:=ae (H.k (by unfold ij;rw[<-hC]));have n:=ae (L.k (by unfold eB;rw[<-H]));have u:=ae (ZX.k (by unfold fa;rw[<-H]));clear hC H L ZX;obtain⟨W,ZQ⟩:∃W:E,ZV (ZV w (N #[Y a0 n0 c0,Y a1 n1 c1] 29)) (N #[Y Z 0 0,Y Z 0 0] 29)=W:=⟨_,rfl⟩
 obtain⟨P,-,-,-⟩:=nb2 ZQ;have ZN:=ae ZQ;clear ZQ;have S:=ae (uN w (Y a0 n0 c0) (Y a1 n1 c1) 29);go_enter Tryz.func14,Tryz.ntmps14;go_wp2_with fail;rw[ZN.i] at S ⊢;clear ZN;refine(eK a0 n0 c0 f0 a1 n1 c1 f1 _ hn0 hn1 (V0.aa P ly) (V1.aa P ly) HF HS).P ?_;rintro e w1⟨rfl,b⟩;rw[<-HC.i];have G:=ae (S.aa b S.lt');have ZO:=ae (P.k (b.P P.size));clear b P S;by_cases hc:C=0;case neg =>
  have h:=HD.i;rw[eT hc] at h;have g:=n.i;rw[eI (by omega)] at g;have f:=u.i;rw[eI (by omega)] at f;subst h g f;have hc':(C == 0)=ZA:=by simpa using hc
  obtain⟨r0,q0⟩:=G.r0;obtain⟨r1,q1⟩:=G.r1;go_wp2;exact bp (v:=.tuple #[ZJ #[Y Z 0 0,Y Z 0 0],J I 1]) (by simp[results,YK,go_sem,r0,r1]) rfl ⟨_,_,[],rfl,CP _ _ _ _,dq _ _,rfl,(ZO.setCell (by simp) _).setCell (by simp) _⟩
 subst hc;have hz:=lU HC.c;have HZ:=ae hz;clear hz HC;have ZT:=HD.i;rw[eI (by omega)] at ZT;have ZR:=ae ZT;clear ZT HD;go_wp2_with fail;refine(dl t _).P ?_;rintro e w2⟨rfl,b⟩;have m:=ae (G.aa b G.lt');have O:=ae (ZO.k (b.P ZO.size));clear b G ZO;cases hn:aA t with
 |false =>have h:=ZR.i;rw[eT hn] at h;have g:=n.i;rw[eI (by omega)] at g;have f:=u.i;rw[eI (by omega)] at f;subst h g f;clear hn;obtain⟨r0,q0⟩:=m.r0;obtain⟨r1,q1⟩:=m.r1;go_wp2;exact bp (v:=.tuple #[ZJ #[Y Z 0 0,Y Z 0 0],J I 2]) (by simp[results,YK,go_sem,r0,r1]) rfl ⟨_,_,[],rfl,CP _ _ _ _,dq _ _,rfl,(O.setCell (by simp) _).setCell (by simp) _⟩
 |true =>
  have z:=ZR.i;rw[eI (by simp[hn])] at z;have ZL:=ae z;clear z ZR hn;have M:=m.a0;have ZY:=m.a1;go_wp2_with fail;refine(uQ a0 n0 c0 a1 n1 c1 f0 t _ hn0 (V0.aa O ly)).P ?_;rintro e wS⟨r,rfl,p,b⟩;have x:=ae (m.aa b m.lt');have K:=ae (O.k (b.P O.size));clear b m O M ZY;have M:=x.a0;have ZY:=x.a1;by_cases hr:r<0;focus
   have ZM:Hid (aF (nm0 f0) n0 t=ZA):=by show _=ZA;rw[<-p];simpa using hr
   clear p;go_wp2_with fail;refine(ni a0 n0 c0 a1 n1 c1 f1 t _ hn1 (V1.aa K ly)).P ?_;rintro e w3⟨q,rfl,o,b⟩;have l:=ae (x.aa b x.lt');have y:=ae (K.k (b.P K.size));clear b x K M ZY;have M:=l.a0;have ZY:=l.a1;by_cases hq:q<0
   ·have hi:(aF (nm0 f0) n0 t || aF (nm1 f1) n1 t)=ZA:=by rw[ZM.i,<-o];simpa using hq
    clear o;have h:=ZL.i;rw[eT hi] at h;have g:=n.i;rw[eI (by omega)] at g;have f:=u.i;rw[eI (by omega)] at f;subst h g f;obtain⟨r0,q0⟩:=l.r0;obtain⟨r1,q1⟩:=l.r1;go_wp2;exact bp (v:=.tuple #[ZJ #[Y Z 0 0,Y Z 0 0],J I 4]) (by simp[results,YK,go_sem,r0,r1]) rfl ⟨_,_,[],rfl,CP _ _ _ _,dq _ _,rfl,(y.setCell (by simp) _).setCell (by simp) _⟩
   have hi:(aF (nm0 f0) n0 t || aF (nm1 f1) n1 t)=ZH:=by rw[ZM.i,<-o];simpa using hq
   clear o
  rotate_left;focus
   have hi:(aF (nm0 f0) n0 t || aF (nm1 f1) n1 t)=ZH:=by rw[<-p];have:decide (0<=r)=ZH:=QC (by omega);rw[this];rfl
   clear p;have l:=x;have y:=K
  all_goals
   have h:=ZL.i;rw[eI (by simp[hi])] at h;have g:=n.i;rw[eT h] at g;have f:=u.i;rw[eT h] at f;subst h g f;go_wp2_with fail;refine(fH a0 n0 c0 f0 a1 n1 c1 f1 t _ hn0 hn1 (V0.aa y ly) (V1.aa y ly) HF).P ?_;rintro e w4⟨v0,v1,R,rfl,hO,hR,hM,b⟩;have X4:=ae (l.aa b l.lt');have hlt4:=l.lt;have B4:=ae (y.k (b.P y.size));obtain⟨sa,sc,rfl⟩:=aJ hO;obtain⟨ta,tc,rfl⟩:=aJ hR.u;have O4:=ae (aE (aH (aH (R:=A (B w)+1) (j:=0) hO (by omega) (Y sa (Qy f0 t n0).length sc)) (R:=A (B w)+1) (j:=1) (by omega) (Y ta (ZU R) tc)) (base':=A (B w)) (by omega));have T4:=ae (iV ((hR.set (X:=A (B w)+1) (j:=0) (by omega) (Y sa (Qy f0 t n0).length sc)).set (X:=A (B w)+1) (j:=1) (by omega) (Y ta (ZU R) tc)) (base':=A (B w)) (by omega));have HM:=ae hM;clear hO hR b hM M ZY;obtain⟨r0,q0⟩:=X4.r0;obtain⟨r1,q1⟩:=X4.r1;go_wp2;exact bp (v:=.tuple #[ZJ #[Y sa (Qy f0 t n0).length sc,Y ta (ZU R) tc],J I 0]) (by simp[results,YK,go_sem,r0,r1]) rfl ⟨_,_,R,rfl,O4,T4,HM,(B4.setCell (by simp) _).setCell (by simp) _⟩
