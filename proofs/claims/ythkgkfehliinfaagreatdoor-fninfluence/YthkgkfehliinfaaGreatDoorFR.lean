import Derived.Test.YthkgkfehliinfaaGreatDoorFP
import Derived.Deep.RegionHeld
set_option linter.all false
set_option maxRecDepth 100000
set_option maxHeartbeats 8000000
open Go renaming Addr.mk->Q,Value.slice->Y,Value.string->U,Value.int->J,Value.agg->ZJ,Obj.cells->N,IntKind.i64->I,World->E,Value->ZB,Ending.returned->ZI,World.heap->z,World.alloc->ZV,World.cell?->ZW
open Option renaming none->Z,some->T
open Bool renaming false->ZA,true->ZH
open Array renaming size->B
open List renaming length->ZU
namespace Go.Proofs.YthkgkfehliinfaaGreatDoor.Vp
section
variable {P:Program}{ops:Array Oper}{ZP:Exit->Act->E->Prop}{md:Region.Mode}{S:E->Prop}
def Bl {i:Nat}{b:Oper}{v:ZB}{k:Nat}{l:Array Bool}{a:Act}{w:E}(hi:ops.toList[i]?=T b)(p:Region.noSelect ops=ZH)(o:Region.free md ops l i=ZH)(n:(Region.ready md ops l).contains i=ZH)
  (m:∀c a w,ZP (.panic c) (a.put b.dst v) w->ZP (.panic c) a w) (j:Region.wanted b (yielded ops a.tmps)=ZH) (g:∀w,S w->(execOp a.eval b).run P w=.ok (.value v) w) (f:S w)
  (h:wpAnyH P md ops ZP S k (l.setIfInBounds i ZH) (a.put b.dst v) w):wpAnyH P md ops ZP S (k+1) l a w:=by
 rw[NT] at hi;exact wpAnyH_take hi p o n m (.inl ⟨j,λw f=>g w f⟩) f h
def nxS:List Bool->Nat->Option Nat
 |[],_=>Z
 |true::l,j=>nxS l (j+1)
 |false::_,j=>T j
def aN (j:Nat){i:Nat}{b:Oper}{v:ZB}{k:Nat}{l:Array Bool}{a:Act}{w:E}(_:nxS (l.toList.drop j) j=T i)(hi:ops.toList[i]?=T b)(f:(Region.noSelect ops && Region.free md ops l i && (Region.ready md ops l).contains i)=ZH)
  (o:∀c a w,ZP (.panic c) (a.put b.dst v) w->ZP (.panic c) a w) (n:Region.wanted b (yielded ops a.tmps)=ZH) (g:∀w,S w->(execOp a.eval b).run P w=.ok (.value v) w) (m:S w)
  (h:wpAnyH P md ops ZP S k (l.setIfInBounds i ZH) (a.put b.dst v) w):wpAnyH P md ops ZP S (k+1) l a w:=by
 simp only[j6] at f;exact Bl hi f.1.1 f.1.2 f.2 o n g m h
def aL {i:Nat}{o:Oper}{k:Nat}{l:Array Bool}{a:Act}{w:E}(f:ops.toList[i]?=T o)(n:Region.ready md ops l=[i])
  (h:∀b:Act->E->Prop,Shut (∀a w,S w->wpAnyH P md ops ZP S k (l.setIfInBounds i ZH) a w->b a w)->if Region.wanted o (yielded ops a.tmps)=ZH then Oper.wp P o a w b ZP else b (a.put o.dst undef) w) :
  wpAnyH P md ops ZP S (k+1) l a w:=by
 rw[NT] at f;exact wpAnyH_ready n (WN _ _) (AllReadyH.cons f (λb m=>h b (λa w j g=>m a w j (λ_=>g))) AllReadyH.nil)
def li (j:Nat){i:Nat}{o:Oper}{k:Nat}{l:Array Bool}{a:Act}{w:E}(_:nxS (l.toList.drop j) j=T i)(g:ops.toList[i]?=T o)(f:Region.ready md ops l=[i])
  (h:∀b:Act->E->Prop,Shut (∀a w,S w->wpAnyH P md ops ZP S k (l.setIfInBounds i ZH) a w->b a w)->if Region.wanted o (yielded ops a.tmps)=ZH then Oper.wp P o a w b ZP else b (a.put o.dst undef) w) :
  wpAnyH P md ops ZP S (k+1) l a w:=aL g f h
def Bm (j:Nat){i:Nat}{f:Oper}{k:Nat}{l:Array Bool}{a:Act}{w:E}(_:nxS (l.toList.drop j) j=T i)(hi:ops.toList[i]?=T f)(b:(Region.noSelect ops && Region.free md ops l i && (Region.ready md ops l).contains i)=ZH)
  (n:∀c a w,ZP (.panic c) (a.put f.dst undef) w->ZP (.panic c) a w) (m:Region.wanted f (yielded ops a.tmps)=ZA) (g:S w)
  (h:wpAnyH P md ops ZP S k (l.setIfInBounds i ZH) (a.put f.dst undef) w):wpAnyH P md ops ZP S (k+1) l a w:=by
 simp only[j6] at b;rw[NT] at hi;exact wpAnyH_take hi b.1.1 b.1.2 b.2 n (.inr ⟨m,rfl⟩) g h
end
end Go.Proofs.YthkgkfehliinfaaGreatDoor.Vp
namespace Go.Proofs.YthkgkfehliinfaaGreatDoor.Ca
section
variable {P:Program}{ops:Array Oper}{ZP:Exit->Act->E->Prop}{md:Region.Mode}{S:E->Prop}{n:Nat}
def dP (P:Program)(md:Region.Mode)(ops:Array Oper)(ZP:Exit->Act->E->Prop)(S:E->Prop)(n:Nat):Nat->Array Bool->Act->E->Prop
 |0,l,a,w=>Region.ready md ops l=[]/\ZP .normal a w
 |k+1,l,a,w=>(Region.ready md ops l=[]->ZP .normal a w)/\∀i∈Region.ready md ops l,wpOp P ops ZP i (λf b=>(i≠n->S b)/\dP P md ops ZP S n k (l.setIfInBounds i ZH) f b) a w
def uS:∀(k:Nat) (l:Array Bool) (a:Act) (w:E),dP P md ops ZP S n k l a w->wpAny P md ops ZP k l a w
 |0,_,_,_,h=>h
 |k+1,_,_,_,h=>⟨h.1,λi hi=>wpOp_mono (λb f x=>uS k _ b f x.2) (h.2 i hi)⟩
def waitsFor (md:Region.Mode)(ops:Array Oper)(n i:Nat):Bool:=match ops[n]? with
 |some o=>o.after.any λe=>Region.binds md e && e.on == i
 |none=>ZA
def Bn {i:Nat}{o:Oper}(h:waitsFor md ops n i=ZH)(f:ops[n]?=T o)(hn:∀e∈o.after,Region.binds md e=ZH->e.on≠i):False:=by unfold waitsFor at h;simp only[f] at h;obtain⟨e,b,h2⟩:=Array.any_eq_true'.1 h;simp only[Bool.and_eq_true,beq_iff_eq] at h2;exact hn e b h2.1 h2.2
def zB {i:Nat}{p:Oper}{v:ZB}(hi:ops[i]?=T p)(q:∀(j:Nat) (o:Oper) s b,ops[j]?=T o->o.op≠.select s b)(ZO:∀c a w,ZP (.panic c) (a.put p.dst v) w->ZP (.panic c) a w)(M:waitsFor md ops n i=ZH):∀(k:Nat) (l:Array Bool) (a:Act) (w:E),(∀j g,ops[j]?=T g->j≠i->l.getD j ZH=ZA->(∀e∈g.after,Region.binds md e=ZH->e.on≠i)->p.apart ops g=ZH) ->
   i∈Region.ready md ops l->YieldsIf P ops S p v a->S w->dP P md ops ZP S n k (l.setIfInBounds i ZH) (a.put p.dst v) w->dP P md ops ZP S n (k+1) l a w:=by
 intro k;induction k with
 |zero =>
  intro l a w _ t u r H;refine⟨λe=>absurd t (by rw[e];exact List.not_mem_nil),λj y=>?_⟩;rcases Decidable.em (j=i) with rfl|f;{exact u.wpOp hi r ⟨λ_=>r,H⟩};{exact absurd (ready_mono y f) (by rw[H.1];exact List.not_mem_nil)}
 |succ k W =>
  intro l a w ZS t u r H;refine⟨λe=>absurd t (by rw[e];exact List.not_mem_nil),λj y=>?_⟩;rcases Decidable.em (j=i) with rfl|f;{exact u.wpOp hi r ⟨λ_=>r,H⟩};{obtain⟨L,g,h,C⟩:=mem_ready.1 y;have ZY:∀e∈g.after,Region.binds md e=ZH->e.on≠i:=λe ZQ hb x=>(by have h1:=C e ZQ hb;have D:=(mem_ready.1 t).1;rw[x] at h1;rcases Nat.lt_or_ge i l.size with ZX|ZX;{simp[ZX] at D h1;rw[D] at h1;cases h1};{simp[Array.getElem?_eq_none ZX] at h1});have A:j≠n:=λe=>Bn M (e ▸ h) ZY;refine wpOp_mono (λR O x=>⟨λ_=>x.2.1 A,W _ R O (λm ZN V G ZR K=>ZS m ZN V G ?_ K) (ready_mono t (Ne.symm f)) x.1 (x.2.1 A) ?_⟩) (wpOp_putIf h (ZS j g h f L ZY) (λs b=>q i p s b hi) (λs b=>q j g s b h) ZO u (H.2 j (ready_mono y f)));{rcases Decidable.em (j=m) with rfl|ZT;{exact L};{rwa[getD_set_ne ZH ZT] at ZR}};{rw[Array.setIfInBounds_comm _ _ f];exact x.2.2}}
def fs {i:Nat}{b:Oper}{v:ZB}{k:Nat}{l:Array Bool}{a:Act}{w:E}(hi:ops.toList[i]?=T b)(r:Region.noSelect ops=ZH)(q:Region.free md ops l i=ZH)(p:(Region.ready md ops l).contains i=ZH)(g:waitsFor md ops n i=ZH)
  (o:∀c a w,ZP (.panic c) (a.put b.dst v) w->ZP (.panic c) a w) (m:b.guard=Z) (f:∀w,S w->(execOp a.eval b).run P w=.ok (.value v) w) (j:S w)
  (h:dP P md ops ZP S n k (l.setIfInBounds i ZH) (a.put b.dst v) w):dP P md ops ZP S n (k+1) l a w:=by
 rw[Array.getElem?_toList] at hi;exact zB hi (Region.noSelect_spec r) o g k l a w (Region.free_spec hi q) (by simpa using p) (.inl ⟨by simp[Region.wanted,m],f⟩) j h
def nxA:List Bool->Nat->Option Nat
 |[],_=>Z
 |true::l,j=>nxA l (j+1)
 |false::_,j=>T j
def aO (j:Nat){i:Nat}{f:Oper}{v:ZB}{k:Nat}{l:Array Bool}{a:Act}{w:E}(_:nxA (l.toList.drop j) j=T i)(hi:ops.toList[i]?=T f)(b:(Region.noSelect ops && Region.free md ops l i && (Region.ready md ops l).contains i && waitsFor md ops n i)=ZH)
  (p:∀c a w,ZP (.panic c) (a.put f.dst v) w->ZP (.panic c) a w) (o:f.guard=Z) (g:∀w,S w->(execOp a.eval f).run P w=.ok (.value v) w) (m:S w)
  (h:dP P md ops ZP S n k (l.setIfInBounds i ZH) (a.put f.dst v) w):dP P md ops ZP S n (k+1) l a w:=by
 simp only[Bool.and_eq_true] at b;exact fs hi b.1.1.1 b.1.1.2 b.1.2 b.2 p o g m h
def ai {i:Nat}{o:Oper}{k:Nat}{l:Array Bool}{a:Act}{w:E}(g:ops.toList[i]?=T o)(m:Region.ready md ops l=[i])
  (h:∀b:Act->E->Prop,Shut (∀a w,(i≠n->S w)->dP P md ops ZP S n k (l.setIfInBounds i ZH) a w->b a w)->if Region.wanted o (yielded ops a.tmps)=ZH then Oper.wp P o a w b ZP else b (a.put o.dst undef) w) :
  dP P md ops ZP S n (k+1) l a w:=by
 rw[Array.getElem?_toList] at g;refine⟨λe=>absurd e (by rw[m];exact List.cons_ne_nil _ _),λj f=>?_⟩;rw[m] at f;obtain rfl:=List.mem_singleton.1 f;exact wpOp_step g λb r=>h b λa w q p=>r a w ⟨q,p⟩
def bV (j:Nat){i:Nat}{o:Oper}{k:Nat}{l:Array Bool}{a:Act}{w:E}(_:nxA (l.toList.drop j) j=T i)(g:ops.toList[i]?=T o)(f:Region.ready md ops l=[i])
  (h:∀b:Act->E->Prop,Shut (∀a w,(i≠n->S w)->dP P md ops ZP S n k (l.setIfInBounds i ZH) a w->b a w)->if Region.wanted o (yielded ops a.tmps)=ZH then Oper.wp P o a w b ZP else b (a.put o.dst undef) w) :
  dP P md ops ZP S n (k+1) l a w:=ai g f h
def ba {l:Array Bool}{a:Act}{w:E}(b:Region.ready md ops l=[])(h:ZP .normal a w)(k:Nat):dP P md ops ZP S n k l a w:=by
 cases k with
 |zero=>exact⟨b,h⟩
 |succ k=>exact⟨λ_=>h,by rw[b];intro i hi;cases hi⟩
def aI {id:Nat}{a:Act}{w:E}(S:E->Prop)(n:Nat)(b:P.follows .mixedOrders=ZH)(h:dP P .any ops ZP S n ops.size (Array.replicate ops.size ZA) a w.drew):(Code.region id ops ZH).wp P ZP a w:=
 wp_region_any b (uS _ _ _ _ h)
end
section
variable {P:Program}{ops:Array Oper}{ZP:Exit->Act->E->Prop}{md:Region.Mode}{S:E->Prop}{n:Nat}
def pr {i j:Nat}{h f:Oper}{k:Nat}{l:Array Bool}{a:Act}{w:E}(hi:ops.toList[i]?=T h)(r:ops.toList[j]?=T f)(s:Region.ready md ops l=[i,j])
  (h1:∀b:Act->E->Prop,Shut (∀a w,(i≠n->S w)->dP P md ops ZP S n k (l.setIfInBounds i ZH) a w->b a w)->if Region.wanted h (yielded ops a.tmps)=ZH then Oper.wp P h a w b ZP else b (a.put h.dst undef) w)
  (h2:∀b:Act->E->Prop,Shut (∀a w,(j≠n->S w)->dP P md ops ZP S n k (l.setIfInBounds j ZH) a w->b a w)->if Region.wanted f (yielded ops a.tmps)=ZH then Oper.wp P f a w b ZP else b (a.put f.dst undef) w) :
  dP P md ops ZP S n (k+1) l a w:=by
 rw[Array.getElem?_toList] at hi r;refine⟨λe=>absurd e (by rw[s];exact List.cons_ne_nil _ _),λm g=>?_⟩;rw[s] at g;rcases List.mem_cons.1 g with rfl|g;{exact wpOp_step hi λb p=>h1 b λa w o q=>p a w ⟨o,q⟩};{obtain rfl:=List.mem_singleton.1 g;exact wpOp_step r λb p=>h2 b λa w o q=>p a w ⟨o,q⟩}
end
end Go.Proofs.YthkgkfehliinfaaGreatDoor.Ca
namespace Go.Proofs.YthkgkfehliinfaaGreatDoor.Vp
section
variable {P:Program}{ops:Array Oper}{ZP:Exit->Act->E->Prop}{md:Region.Mode}{S:E->Prop}
def jP {i j:Nat}{g f:Oper}{k:Nat}{l:Array Bool}{a:Act}{w:E}(hi:ops.toList[i]?=T g)(o:ops.toList[j]?=T f)(p:Region.ready md ops l=[i,j])
  (h1:∀b:Act->E->Prop,Shut (∀a w,S w->wpAnyH P md ops ZP S k (l.setIfInBounds i ZH) a w->b a w)->if Region.wanted g (yielded ops a.tmps)=ZH then Oper.wp P g a w b ZP else b (a.put g.dst undef) w)
  (h2:∀b:Act->E->Prop,Shut (∀a w,S w->wpAnyH P md ops ZP S k (l.setIfInBounds j ZH) a w->b a w)->if Region.wanted f (yielded ops a.tmps)=ZH then Oper.wp P f a w b ZP else b (a.put f.dst undef) w) :
  wpAnyH P md ops ZP S (k+1) l a w:=by
 rw[NT] at hi o;exact wpAnyH_ready p (WN _ _) (AllReadyH.cons hi (λb m=>h1 b (λa w h n=>m a w h (λ_=>n))) (AllReadyH.cons o (λb m=>h2 b (λa w h n=>m a w h (λ_=>n))) AllReadyH.nil))
end
open RowKit Ca
def fH (a0:O_)(n0 c0:Nat)(f0:Nat->Source)(a1:O_)(n1 c1:Nat)(f1:Nat->Target)(t:F_)(w:E)(hn0:(n0:Int)<=1048576)(hn1:(n1:Int)<=1048576)(O:Qx w a0 n0 f0)(ZQ:Qq w a1 n1 f1)(H:∀i,i<n1->aP (f1 i)):Calls Tryz.prog 48 #[ZJ #[Y a0 n0 c0,Y a1 n1 c1],U t] w λe w'=>∃r s R,e=ZI (ZJ #[r,s])/\w'.ownsRow (B (z w)+3) 91 2 r (Qy f0 t n0).length ((Qy f0 t n0).flatMap bF)/\TRow w' (B (z w)+3) s R/\R.map (·.1)=Qj f1 t n1/\Below (B (z w)) w w':=by
 have V0:=ae O;have V1:=ae ZQ;have HF:=ae H;clear O ZQ H;obtain⟨ph,hi,n9,mv,ld⟩:=NP jn;obtain⟨At,hj,ur,ZP,ex⟩:=NP fw;have A0:=ae ((((BS w).alloc ly (N #[Y a0 n0 c0,Y a1 n1 c1] 29)).alloc (by simp) (N #[Y Z 0 0,Y Z 0 0] 29)).alloc (by simp;omega) (N #[Y Z 0 0,Y Z 0 0] 29));have X0:=ae (Bi w (Y a0 n0 c0) (Y a1 n1 c1) 29);go_enter Tryz.func48,Tryz.ntmps48;go_wp2;generalize ZV (ZV (ZV w (N #[Y a0 n0 c0,Y a1 n1 c1] 29)) (N #[Y Z 0 0,Y Z 0 0] 29)) (N #[Y Z 0 0,Y Z 0 0] 29)=W at A0 X0 ⊢;go_loopw [6] (λi wr=>∃(k:Nat) (r:ZB),k<=n0/\i=J I k/\Hid (Boxes wr (B (z w)) (Y a0 n0 c0) (Y a1 n1 c1) r (Y Z 0 0))/\Hid (wr.ownsRow (B (z w)+3) 91 2 r (Qy f0 t k).length ((Qy f0 t k).flatMap bF))/\Hid (Below (B (z w)) w wr)) (λi _=>n0 - (intOf i).toNat);case atStart=>exact⟨0,_,by omega,rfl,X0,CP _ _ _ _,A0⟩
 case round =>
  obtain⟨k,r,hk,rfl,f,D,q⟩:=hrel;have ZO:=f.lt;by_cases u:k<n0
  ·obtain⟨b,off,rfl,y⟩:=V0.resolve_left (by omega);obtain⟨P,X⟩:=(y.2 k u).aa q y.1;clear y;have hll:=gO f0 t k;have ZM:=f.a0;cases hq:((f0 k).e.toList == t.toList) with
   |true =>have C:=ae hq;go_wp2;exact⟨⟨k+1,r,by omega,by go_num,f,by show World.ownsRow _ _ _ _ _ _ _;rw[zq C.i];exact D,q⟩,by simp[intOf];omega⟩
   |false =>
    have C:=ae hq;obtain⟨x0,y0⟩:=f.o0;have ZY:=ae ((a8 (B (z w)+3) wr).drew.alloc (by simp;omega) (N #[U (f0 k).e,U (f0 k).H] 91));go_wp2_with fail
    go_region_law (first
     |(refine dR rfl (.tmp 25) (.tmp 31) 26 rfl (B (z w)+3) 91 ph (ZJ #[U ⟨#[]⟩,U ⟨#[]⟩]) 2 32 QH hi n9 mv ld rfl (by decide) r (Qy f0 t k).length ((Qy f0 t k).flatMap bF) (by simp[Act.eval]) (D.drew.alloc _) (Q (B (z wr)) 0 Z) 1 1 (bF (f0 k)) (by simp[Act.eval]) rfl (df wr.drew _ _ _) (by simp[bF,Value.oneCell']) (by unfold maxLen;omega) (by omega) (by simp<;>omega) ?_;intro v' w2 n l ZX;obtain⟨gs,cs,rfl⟩:=ey n (by omega);have O2:=ae n;have B2:=ae (bg ZY l (by simp<;>omega) (λj e=>(D.lt j e).1));obtain⟨x2,y2⟩:=(f.aa B2 ly).o0;clear n l ZX))
    all_goals
     clear x0 y0 ZM;go_wp2;exact⟨⟨k+1,_,by omega,by go_num,(f.aa B2 ly).set0 _,by show World.ownsRow _ _ _ _ _ _ _;rw[zu C.i,cM,J2];simpa using aH O2.i (by omega) _,(q.k (B2.P (by omega))).setCell (by simp;omega) _⟩,by simp[intOf];omega⟩
  ·have e:n0=k:=by omega
   subst e;have ZM:=f.a0;have ZR:=f.a1;go_wp2;clear ZM ZR u hk;generalize wr=W1 at f D q ZO ⊢;go_loopw [7] (λi wr=>∃(k:Nat) (s:ZB) (R:List TR),k<=n1/\i=J I k/\Hid (Boxes wr (B (z w)) (Y a0 n0 c0) (Y a1 n1 c1) r s)/\Hid (wr.ownsRow (B (z w)+3) 91 2 r (Qy f0 t n0).length ((Qy f0 t n0).flatMap bF))/\Hid (TRow wr (B (z w)+3) s R)/\Hid (R.map (·.1)=Qj f1 t k)/\Hid (Below (B (z w)) w wr)) (λi _=>n1 - (intOf i).toNat);case atStart=>exact⟨0,_,[],by omega,rfl,f,D,dq _ _,rfl,q⟩
   case round =>
    clear f D q;obtain⟨k,s,R,hk,rfl,f,ZS,A,L,q⟩:=hrel;have hlt4:=f.lt;by_cases u:k<n1
    ·obtain⟨b,off,rfl,y⟩:=V1.resolve_left (by omega);obtain⟨P,ZN,kc,X,hx⟩:=(y.2 k u).aa q ly y.1;have HX:=ae hx;have n8:=y.1;clear y hx;have hRl:ZU R<=1048576:=by have h1:=xT List.length L.i;have h2:=kf f1 t k;simp at h1;omega
     have ro:((f1 k).h:Int)<=1048576:=by have:=HF.i k u;unfold aP at this;omega
     have ZR:=f.a1;have fd:¬ b=B (z w)+1+1:=by omega
     have aq:¬ (B (z w))+1+1=b:=by omega
     have hbw:b<B (z wr):=lj n8 q.size;cases hq:((f1 k).e.toList == t.toList) with
     |true =>have C:=ae hq;go_wp2;exact⟨⟨k+1,s,R,by omega,by go_num,f,ZS,A,by show _=Qj f1 t (k+1);rw[zv C.i];exact L,q⟩,by simp[intOf];omega⟩
     |false =>
      have C:=ae hq;have ST:Hid (∀V,Below (B (z w)+3) wr V->(ZW V (Q (B (z w)+1+1) 1 Z)=T s/\(B (z w))+1+1<B (z V))/\(ZW V (Q (B (z w)) 1 Z)=T (Y (T (Q b off Z)) n1 c1)/\(B (z w))<B (z V))/\ZW V (Q b (off+k*2) Z)=T (U (f1 k).e)/\ZW V (Q b (off+k*2+1) Z)=T (Y ZN (f1 k).h kc)/\b<B (z V)):=λV M=>by have hz:=M.size;have h:=f.aa M ly;exact⟨⟨h.o1.1,by have:=h.lt;omega⟩,⟨h.a1,by have:=h.lt;omega⟩,(M.O (p:=(Q b (off+k*2) Z)) (by show b<B (z w)+3;omega)).k P,(M.O (p:=(Q b (off+k*2+1) Z)) (by show b<B (z w)+3;omega)).k X,by omega⟩
      have ZY:=ae (BS wr).drew;have hki:(k:Int)<(n1:Int):=by omega
      go_wp2_with fail;refine aI (λV=>(ZW V (Q (B (z w)+1+1) 1 Z)=T s/\(B (z w))+1+1<B (z V))/\(ZW V (Q (B (z w)) 1 Z)=T (Y (T (Q b off Z)) n1 c1)/\(B (z w))<B (z V))/\ZW V (Q b (off+k*2) Z)=T (U (f1 k).e)/\ZW V (Q b (off+k*2+1) Z)=T (Y ZN (f1 k).h kc)/\b<B (z V)) 19 (by kernel_rfl) ?_;have o:=ae (ST _ (ZY.P (by omega)));clear ZR P X fd aq;generalize wr.drew=v2 at ZY o ⊢;iterate 14
       refine aO 0 (v:=?_) rfl rfl (by kernel_rfl) (λ_ _ _ h=>h) rfl ?_ o ?_;rotate_left
       ·(intro wz qr;obtain⟨⟨s0,s1⟩,⟨s2,s3⟩,s4,s5,s6⟩:=qr;go_simp)
        (try with_reducible rfl)
       (try simp only[Act.put,yh])
      refine ai (i:=14) rfl (by kernel_rfl) λK m=>?_;go_simp;go_at_call 50;refine(jf ZN (f1 k).h kc (f1 k).u _ ro (HX.aa ZY ly)).P ?_;rintro e wC⟨g,c,rfl,S,hB⟩;have DC:=ae (ZY.k (hB.P ZY.size));have th:=DC.size;have sm:=(cV S).1;have hz1:=ZY.size;have OC:=ae (aE S (base':=B (z w)+3) (by omega));have bt:B (z wr)<=g:=by omega
      clear hB S sm o;have o:=ae (ST _ (DC.P (by omega)));refine m _ _ (λ_=>o) ?_;clear m K
      (try simp only[Act.put,yh])
      refine ai (i:=15) rfl (by kernel_rfl) λK m=>?_;go_simp;refine m _ _ (λ_=>o) ?_;clear m K o
      (try simp only[Act.put,yh])
      have G:=ae (DC.alloc th (N #[U (f1 k).e,Y (T (Q g 0 Z)) (f1 k).h c] 95));have o:=ae (ST _ (G.P (by omega)));refine ai (i:=16) rfl (by kernel_rfl) λK m=>?_;go_simp;refine m _ _ (λ_=>o) ?_;clear m K o
      (try simp only[Act.put,yh])
      refine ai (i:=17) rfl (by kernel_rfl) λK m=>?_;refine dR rfl (.tmp 50) (.tmp 65) 27 rfl (B (z w)+3) 95 At (ZJ #[U ⟨#[]⟩,Y Z 0 0]) 2 40 ON hj ur ZP ex rfl (by decide) s (ZU R) (R.flatMap aZ) (by simp[Act.eval]) ((A.aa DC ly).y.alloc _) (Q (B (z wC)) 0 Z) 1 1 (aZ (f1 k,g,c)) (by simp[Act.eval]) rfl (df wC _ _ _) (by simp[aZ,Value.oneCell']) (by unfold maxLen;omega) (by omega) (by simp;omega) ?_;intro v' w2 n l ZX;obtain⟨gs,cs,rfl⟩:=ey n (by omega);have T2:=ae (A.more (x:=f1 k) (g:=g) (c:=c) G bt (by omega) (OC.alloc _) n l);have ZL:=ae (bg (G.P (show (B (z w))+3<=B (z wr) by omega)) l (by simp;omega) (λj e=>(A.y.lt j e).1));have la:=ae ((J_ ZS G ly).kept l (Bh (J_ ZS G ly) ((A.aa DC ly).y.alloc _) (by decide)));have ZT:=ae (f.aa ZL ly);obtain⟨x2,y2⟩:=ZT.o1;have hz2:=ZT.lt;have o:=ae (ST _ ZL);clear n l ZX;refine m _ _ (λ_=>o) ?_;clear m K
      (try simp only[Act.put,yh])
      refine ai (i:=18) rfl (by kernel_rfl) λK m=>?_;go_simp;refine m _ _ (λ_=>o) ?_;clear m K
      (try simp only[Act.put,yh])
      have hz3:B (z w)+1+1<B (z w2):=by omega
      refine ai (i:=19) rfl (by kernel_rfl) λK m=>?_;go_simp;refine m _ _ (λh=>absurd rfl h) ?_;clear m K o
      (try simp only[Act.put,yh])
      refine ba (by kernel_rfl) ?_ _;clear x2 y2;go_wp2;exact⟨⟨k+1,_,R++[(f1 k,g,c)],by omega,by go_num,ZT.set1 _,aH la (by omega) _,T2.set (by omega) _,by show _=Qj f1 t (k+1);rw[zx C.i,NE,L.i];rfl,(q.k (ZL.P (by omega))).setCell (by simp;omega) _⟩,by simp[intOf];omega⟩
    ·have e:n1=k:=by omega
     subst e;have ZR:=f.a1;obtain⟨sa,sc,rfl⟩:=aJ ZS;obtain⟨ta,tc,rfl⟩:=aJ A.y;obtain⟨r0,q0⟩:=f.r0;obtain⟨r1,q1⟩:=f.r1;obtain⟨m0,_⟩:=f.o0;obtain⟨m1,_⟩:=f.o1;go_wp2;exact bp (v:=ZJ #[Y sa _ sc,Y ta _ tc]) (by simp[results,Tryz.results48,go_sem,r0,r1]) rfl ⟨_,_,R,rfl,aH (aH ZS (by omega) _) (by omega) _,(A.set (by omega) _).set (by omega) _,L,(q.setCell (by simp) _).setCell (by simp) _⟩
def nE (a0:O_)(n0 c0:Nat)(f0:Nat->Source)(a1:O_)(n1 c1:Nat)(f1:Nat->Target)(t tx:F_)(w:E)(hn0:(n0:Int)<=1048576)(hn1:(n1:Int)<=1048576)(Fk:Qx w a0 n0 f0)(DE:Qq w a1 n1 f1)(At:∀i,i<n1->aP (f1 i))(hs:∀i,i<n1->∀j,j<(f1 i).h->((f1 i).u j).s.size<=maxLen):Calls Tryz.prog 13 #[ZJ #[Y a0 n0 c0,Y a1 n1 c1],U t,U tx] w λe S=>∃v0 v1 R,e=ZI (.tuple #[ZJ #[v0,v1],J I (iC n0 f0 n1 f1 t tx)])/\S.ownsRow (B (z w)) 91 2 v0 (eZ n0 f0 n1 f1 t tx).length ((eZ n0 f0 n1 f1 t tx).flatMap bF)/\TRow S (B (z w)) v1 R/\R.map (·.1)=fC n0 f0 n1 f1 t tx/\Below (B (z w)) w S:=by
 have V0:=ae Fk;have V1:=ae DE;have HF:=ae At;have HS:=ae hs;clear Fk DE At hs;obtain⟨P,ZS,O,H,G⟩:=NP jn;obtain⟨C,hC⟩:∃C,C=aR n0 f0 n1 f1:=⟨_,rfl⟩
 obtain⟨D,hD⟩:∃D,D=iC n0 f0 n1 f1 t tx:=⟨_,rfl⟩
 obtain⟨LS,qr⟩:∃LS,LS=eZ n0 f0 n1 f1 t tx:=⟨_,rfl⟩
 obtain⟨LT,ph⟩:∃LT,LT=fC n0 f0 n1 f1 t tx:=⟨_,rfl⟩
 rw[<-hD,<-qr,<-ph];have HC:=ae hC;have HD:=ae (hD.k (by unfold iC;rw[<-hC]));have x:=ae (qr.k (by unfold eZ;rw[<-hD]));have bt:=ae (ph.k (by unfold fC;rw[<-hD]));clear hC hD qr ph;obtain⟨W,n9⟩:∃W:E,ZV (ZV w (N #[Y a0 n0 c0,Y a1 n1 c1] 29)) (N #[Y Z 0 0,Y Z 0 0] 29)=W:=⟨_,rfl⟩
 obtain⟨A0,-,-,-⟩:=nb2 n9;have Bk:=ae n9;clear n9;have X0:=ae (uJ w (Y a0 n0 c0) (Y a1 n1 c1) 29);go_enter Tryz.func13,Tryz.ntmps13;go_wp2_with fail;rw[Bk.i] at X0 ⊢;clear Bk;refine(eK a0 n0 c0 f0 a1 n1 c1 f1 _ hn0 hn1 (V0.aa A0 ly) (V1.aa A0 ly) HF HS).P ?_;rintro e w1⟨rfl,y⟩;rw[<-HC.i];have X1:=ae (X0.aa y X0.lt');have B1:=ae (A0.k (y.P A0.size));clear y A0 X0;by_cases hc:C=0;case neg =>
  have hd:=HD.i;rw[eT hc] at hd;have r:=x.i;rw[eI (by omega)] at r;have o:=bt.i;rw[eI (by omega)] at o;subst hd r o;have hc':(C == 0)=ZA:=by simpa using hc
  obtain⟨r0,q0⟩:=X1.r0;obtain⟨r1,ZM⟩:=X1.r1;go_wp2;exact bp (v:=.tuple #[ZJ #[Y Z 0 0,Y Z 0 0],J I 1]) (by simp[results,UM,go_sem,r0,r1]) rfl ⟨_,_,[],rfl,CP _ _ _ _,dq _ _,rfl,(B1.setCell (by simp) _).setCell (by simp) _⟩
 subst hc;have hz:=lT HC.c;have HZ:=ae hz;clear hz HC;have ur:=HD.i;rw[eI (by omega)] at ur;have sm:=ae ur;clear ur HD;go_wp2_with fail;refine(dl t _).P ?_;rintro e w2⟨rfl,y⟩;have M:=ae (X1.aa y X1.lt');have ZP:=ae (B1.k (y.P B1.size));clear y X1 B1;by_cases n:aA t=ZA\/2000<(tx.size:Int)
 ·have hd:=sm.i;rw[eT n] at hd;have r:=x.i;rw[eI (by omega)] at r;have o:=bt.i;rw[eI (by omega)] at o;subst hd r o;obtain⟨r0,q0⟩:=M.r0;obtain⟨r1,ZM⟩:=M.r1;cases hn:aA t with
  |false =>clear n;go_wp2;exact bp (v:=.tuple #[ZJ #[Y Z 0 0,Y Z 0 0],J I 2]) (by simp[results,UM,go_sem,r0,r1]) rfl ⟨_,_,[],rfl,CP _ _ _ _,dq _ _,rfl,(ZP.setCell (by simp) _).setCell (by simp) _⟩
  |true =>have Fm:(2000:Int)<tx.size:=n.resolve_left (by simp[hn]);clear n;go_wp2;exact bp (v:=.tuple #[ZJ #[Y Z 0 0,Y Z 0 0],J I 2]) (by simp[results,UM,go_sem,r0,r1]) rfl ⟨_,_,[],rfl,CP _ _ _ _,dq _ _,rfl,(ZP.setCell (by simp) _).setCell (by simp) _⟩
 have ro:=sm.i;rw[eI n] at ro;have DQ:=ae ro;have hn:aA t=ZH:=by
  cases h:aA t with
  |true=>rfl
  |false=>exact absurd (.inl h) n
 have Fm:¬ (2000:Int)<tx.size:=λh=>n (.inr h);clear ro sm n;have k0:=M.a0;have k1:=M.a1;rw[hn];go_wp2_with fail;refine(fH a0 n0 c0 f0 a1 n1 c1 f1 t _ hn0 hn1 (V0.aa ZP ly) (V1.aa ZP ly) HF).P ?_;rintro e w3⟨v0,v1,R,rfl,hO,hR,hM,y⟩;have hlt2:=M.lt;have X3:=ae (M.aa y M.lt');have B3:=ae (ZP.k (y.P ZP.size));obtain⟨sa,sc,rfl⟩:=aJ hO;obtain⟨ta,tc,rfl⟩:=aJ hR.y;have eR:ZU R=(Qj f1 t n1).length:=by rw[<-hM];simp
 have Hx:=gO f0 t n0;have Id:=kf f1 t n1;obtain⟨L,hL⟩:∃L,L=Qy f0 t n0:=⟨_,rfl⟩
 obtain⟨K,hK⟩:∃K,K=Qj f1 t n1:=⟨_,rfl⟩
 rw[<-hL] at hO Hx ⊢;rw[<-hK] at hM Id eR;have ZX:=DQ.i;rw[<-hL,<-hK] at ZX;have r:=x.i;rw[<-hL] at r;have o:=bt.i;rw[<-hK] at o;have ER:=ae eR;have hlr:ZU R<=n1:=by omega
 clear DQ x bt hL hK y k0 k1 hn M ZP eR;have O3:=ae (aE hO (base':=B (z w)) (by omega));have RX:Hid (∀S,Below (B (z w3)) w3 S->TRow S (B (z w2)+3) (Y ta (ZU R) tc) R):=λS hb=>hR.aa hb ly;have HM:=ae hM;have hll:(ZU L:Int)<=1048576:=by omega
 clear hO hR hM;obtain⟨w4,V⟩:∃W:E,ZV w3 (N #[Y sa (ZU L) sc,Y ta (ZU R) tc] 29)=W:=⟨_,rfl⟩
 obtain⟨DB,-,aq⟩:=nb1 V;have mv:=ae V;clear V;have ZO:=ae (uO w3 (Y sa (ZU L) sc) (Y ta (ZU R) tc) 29);have X4:=ae (X3.aa DB X3.lt');have B4:=ae (B3.k (DB.P B3.size));have O4:=ae (J_ O3 DB ly);have n8:=ae DB.i;have Fd:B (z w)+1<B (z w3):=X3.lt;have c8:=ZO.c0;have c9:=ZO.c1;clear O3 DB;by_cases hc3:(200:Int)<=ZU L+ZU R;{rw[eT (by have:=ER.i;omega)] at ZX;rw[eI (by omega)] at r o;subst ZX r o;obtain⟨r0,q0⟩:=X3.r0;obtain⟨r1,ZM⟩:=X3.r1;clear c8 c9;go_wp2;exact bp (v:=.tuple #[ZJ #[Y Z 0 0,Y Z 0 0],J I 3]) (by simp[results,UM,go_sem,r0,r1,Fd]) rfl ⟨_,_,[],rfl,CP _ _ _ _,dq _ _,rfl,((B3.setCell (by simp) _).setCell (by simp) _).alloc (by have:=B3.size;simp;omega) _⟩};clear X3 B3;rw[eI (by have:=ER.i;omega)] at ZX;rw[eT ZX] at r o;subst ZX o;have x:=ae r;clear r;go_wp2;rw[mv.i] at ZO c8 c9 ⊢;clear mv;generalize (B (z w3))=X at ZO c8 c9 Fd aq RX n8 ⊢;obtain⟨u,th⟩:∃u,u=B (z w4):=⟨_,rfl⟩
 have E0:Hid (Below u w4 (ZV w4 (N #[] 91))):=by rw[th];exact br.alloc ly _
 have W0:Hid ((ZV w4 (N #[] 91)).ownsRow u 91 2 (Y (T (Q (X+1) 0 Z)) 0 0) 0 []):=by rw[<-aq];exact OV w4 #[] 0 (by omega) (by unfold maxLen;omega) rfl
 have ZY:X<u:=by have:=ZO.lt;omega
 have g:=ae th;have ZR:=ae aq;clear th aq;go_loopw [9,10,11] (λv d i wr=>∃(k:Nat) (db:Bool),k<=ZU L/\i=J I k/\d=.bool db/\Hid (db=dD L t k)/\Hid (wr.ownsRow u 91 2 v (ci L ⟨t,tx⟩ t k).length ((ci L ⟨t,tx⟩ t k).flatMap bF))/\Hid (Below u w4 wr)) (λ_ _ i _=>ZU L - (intOf i).toNat);case atStart=>exact⟨0,ZA,by omega,rfl,rfl,rfl,W0,E0⟩
 case round =>
  obtain⟨k,db,hk,rfl,rfl,ZT,A,m⟩:=hrel;have e8:=(m.O (p:=(Q X 0 Z)) ZY).k c8;have GS:=sF L ⟨t,tx⟩ t k;obtain⟨hlen1,ld⟩:=GS;have HL2:=ae ld;clear ld;by_cases o:k<ZU L
  ·obtain⟨b,off,rfl,hr⟩:=(kZ O4).resolve_left (by omega);obtain⟨p0,p1⟩:=hr.2 k o;have ex:b<u:=by have:=hr.1;have:=g.i;omega
   have d0:=(m.O (p:=(Q b (off+k*2) Z)) ex).k p0;have d1:=(m.O (p:=(Q b (off+k*2+1) Z)) ex).k p1;clear hr;cases db with
   |true =>
    have HI:Hid (ci L ⟨t,tx⟩ t (k+1)=ci L ⟨t,tx⟩ t k++[aV L k]):=by show(if _ then _ else _)=_;rw[eI (by rw[<-ZT.i];simp)]
    have HN:Hid (ZH=dD L t (k+1)):=by show ZH=(dD L t k || _);rw[<-ZT.i];rfl
    go_wp2_with (at_builtin;(refine DN _ rfl (.tmp 63) (.tmp 69) 26 rfl u 91 P (ZJ #[U ⟨#[]⟩,U ⟨#[]⟩]) 2 32 QH ZS O H G rfl (by decide) _ (ci L ⟨t,tx⟩ t k).length ((ci L ⟨t,tx⟩ t k).flatMap bF) (by simp[Act.eval]) (A.alloc _) (Q (B (z wr)) 0 Z) 1 1 (bF (aV L k)) (by simp[Act.eval]) rfl (df wr _ _ _) (by simp[bF,Value.oneCell']) (by unfold maxLen;omega) (by omega) (by have:=m.size;have:=g.i;simp;omega) ?_;intro vy wy l f q;have OY:=ae l;have BY:=ae (bg (m.alloc (by have:=m.size;have:=g.i;omega) (N #[U (aV L k).e,U (aV L k).H] 91)) f (by have:=m.size;have:=g.i;simp;omega) (λj e=>(A.lt j e).1));clear l f q));exact⟨⟨k+1,ZH,by omega,by go_num,rfl,HN,by show World.ownsRow _ _ _ _ _ _ _;rw[HI.i,cM,J2];simpa using OY.i,BY⟩,by simp[intOf];omega⟩
   |false =>
    cases hq:aC t (aV L k).e with
    |true =>
     have HI:Hid (ci L ⟨t,tx⟩ t (k+1)=ci L ⟨t,tx⟩ t k++[⟨t,tx⟩]++[aV L k]):=by show(if _ then _ else _)=_;rw[eT ⟨ZT.c,hq⟩]
     have HN:Hid (ZH=dD L t (k+1)):=by show ZH=(dD L t k || _);rw[hq];simp
     obtain⟨ZM,q2⟩:=iW hq;clear hq;go_wp2_with (at_builtin;first|(refine DN _ rfl (.tmp 57) (.tmp 61) 26 rfl u 91 P (ZJ #[U ⟨#[]⟩,U ⟨#[]⟩]) 2 32 QH ZS O H G rfl (by decide) _ (ci L ⟨t,tx⟩ t k).length ((ci L ⟨t,tx⟩ t k).flatMap bF) (by simp[Act.eval]) (A.alloc _) (Q (B (z wr)) 0 Z) 1 1 (bF ⟨t,tx⟩) (by simp[Act.eval]) rfl (df wr _ _ _) (by simp[bF,Value.oneCell']) (by unfold maxLen;omega) (by omega) (by have:=m.size;have:=g.i;simp;omega) ?_;intro vx wx l f q;have OX:=ae l;have ZL:=ae (bg (m.alloc (by have:=m.size;have:=g.i;omega) (N #[U t,U tx] 91)) f (by have:=m.size;have:=g.i;simp;omega) (λj e=>(A.lt j e).1));have f8:=(ZL.O (p:=(Q X 0 Z)) ZY).k c8;have g0:=(ZL.O (p:=(Q b (off+k*2) Z)) ex).k p0;have g1:=(ZL.O (p:=(Q b (off+k*2+1) Z)) ex).k p1;clear l f q)|(refine DN _ rfl (.tmp 63) (.tmp 69) 26 rfl u 91 P (ZJ #[U ⟨#[]⟩,U ⟨#[]⟩]) 2 32 QH ZS O H G rfl (by decide) _ ((ci L ⟨t,tx⟩ t k).length+1) ((ci L ⟨t,tx⟩ t k).flatMap bF++bF ⟨t,tx⟩) (by simp[Act.eval]) (OX.alloc _) (Q (B (z wx)) 0 Z) 1 1 (bF (aV L k)) (by simp[Act.eval]) rfl (df wx _ _ _) (by simp[bF,Value.oneCell']) (by unfold maxLen;omega) (by omega) (by have:=ZL.size;have:=g.i;simp;omega) ?_;intro vy wy l f q;have OY:=ae l;have BY:=ae (bg (ZL.alloc (by have:=ZL.size;have:=g.i;omega) (N #[U (aV L k).e,U (aV L k).H] 91)) f (by have:=ZL.size;have:=g.i;simp;omega) (λj e=>(OX.lt j e).1));clear l f q));exact⟨⟨k+1,ZH,by omega,by go_num,rfl,HN,by show World.ownsRow _ _ _ _ _ _ _;rw[HI.i,cM,cM,J2,J2];simpa using OY.i,BY⟩,by simp[intOf];omega⟩
    |false =>
     have HI:Hid (ci L ⟨t,tx⟩ t (k+1)=ci L ⟨t,tx⟩ t k++[aV L k]):=by show(if _ then _ else _)=_;rw[eI (by rw[hq];simp)]
     have HN:Hid (ZA=dD L t (k+1)):=by show ZA=(dD L t k || _);rw[<-ZT.i,hq];rfl
     have HQ:=ae (jM hq);clear hq;rcases HQ.i with ZM|⟨ZM,q2⟩
     all_goals
      go_wp2_with (at_builtin;(refine DN _ rfl (.tmp 63) (.tmp 69) 26 rfl u 91 P (ZJ #[U ⟨#[]⟩,U ⟨#[]⟩]) 2 32 QH ZS O H G rfl (by decide) _ (ci L ⟨t,tx⟩ t k).length ((ci L ⟨t,tx⟩ t k).flatMap bF) (by simp[Act.eval]) (A.alloc _) (Q (B (z wr)) 0 Z) 1 1 (bF (aV L k)) (by simp[Act.eval]) rfl (df wr _ _ _) (by simp[bF,Value.oneCell']) (by unfold maxLen;omega) (by omega) (by have:=m.size;have:=g.i;simp;omega) ?_;intro vy wy l f q;have OY:=ae l;have BY:=ae (bg (m.alloc (by have:=m.size;have:=g.i;omega) (N #[U (aV L k).e,U (aV L k).H] 91)) f (by have:=m.size;have:=g.i;simp;omega) (λj e=>(A.lt j e).1));clear l f q));exact⟨⟨k+1,ZA,by omega,by go_num,rfl,HN,by show World.ownsRow _ _ _ _ _ _ _;rw[HI.i,cM,J2];simpa using OY.i,BY⟩,by simp[intOf];omega⟩
  ·have e:ZU L=k:=by omega
   subst e;cases db with
   |true =>
    have ZQ:ii L ⟨t,tx⟩ t=ci L ⟨t,tx⟩ t (ZU L):=by unfold ii;rw[eT ZT.c]
    obtain⟨va,vc,rfl⟩:=aJ A;have OF:Hid (wr.ownsRow u 91 2 (Y va (ci L ⟨t,tx⟩ t (ZU L)).length vc) (ZU LS) (LS.flatMap bF)):=by show World.ownsRow _ _ _ _ _ _ _;rw[x.i,ZQ];exact A
    have la:=g.i;have fd:=ZR.i;have H1:=ae la;have H2:=ae fd;have H3:=ae ZQ;have e9:=(m.O (p:=(Q X 1 Z)) ZY).k c9;have y8:=(m.frozen (p:=(Q X 0 Z)) ZY).k ZO.z0;obtain⟨r0,q0⟩:=(X4.aa m (by omega)).r0;obtain⟨r1,ZM⟩:=(X4.aa m (by omega)).r1;clear la fd ZQ;go_wp2;have la:=g.i;have fd:=ZR.i;exact bp (v:=.tuple #[ZJ #[Y va (ci L ⟨t,tx⟩ t (ZU L)).length vc,Y ta (ZU R) tc],J I 0]) (by simp[results,UM,go_sem,r0,r1]) rfl ⟨_,_,R,rfl,aE (aH (aH (aH OF (R:=X) (j:=0) (by omega) _) (R:=B (z w)+1) (j:=0) (by omega) _) (R:=B (z w)+1) (j:=1) (by omega) _) (by omega),iV (((RX _ ((n8.k (m.P (by omega))).setCell (p:=(Q X 0 Z)) ly _)).set (X:=B (z w)+1) (j:=0) (by omega) _).set (X:=B (z w)+1) (j:=1) (by omega) _) (by omega),HM,(((B4.k (m.P (by omega))).setCell (by simp;omega) _).setCell (by simp) _).setCell (by simp) _⟩
   |false =>
    go_wp2_with (at_builtin;(refine DN _ rfl (.tmp 73) (.tmp 77) 26 rfl u 91 P (ZJ #[U ⟨#[]⟩,U ⟨#[]⟩]) 2 32 QH ZS O H G rfl (by decide) _ (ci L ⟨t,tx⟩ t (ZU L)).length ((ci L ⟨t,tx⟩ t (ZU L)).flatMap bF) (by simp[Act.eval]) (A.alloc _) (Q (B (z wr)) 0 Z) 1 1 (bF ⟨t,tx⟩) (by simp[Act.eval]) rfl (df wr _ _ _) (by simp[bF,Value.oneCell']) (by unfold maxLen;omega) (by omega) (by have:=m.size;have:=g.i;simp;omega) ?_;intro vz wz l f q;obtain⟨gs,cs,rfl⟩:=ey l (by omega);have OZ:=ae l;have ZN:=ae (bg (m.alloc (by have:=m.size;have:=g.i;omega) (N #[U t,U tx] 91)) f (by have:=m.size;have:=g.i;simp;omega) (λj e=>(A.lt j e).1));have f8:=(ZN.O (p:=(Q X 0 Z)) ZY).k c8;have f9:=(ZN.O (p:=(Q X 1 Z)) ZY).k c9;have y8:=(ZN.frozen (p:=(Q X 0 Z)) ZY).k ZO.z0;obtain⟨r0,q0⟩:=(X4.aa ZN (by have:=g.i;have:=ZR.i;omega)).r0;obtain⟨r1,ZM⟩:=(X4.aa ZN (by have:=g.i;have:=ZR.i;omega)).r1;clear l f q));have ZQ:ii L ⟨t,tx⟩ t=ci L ⟨t,tx⟩ t (ZU L)++[⟨t,tx⟩]:=by unfold ii;rw[eI (by rw[<-ZT.i];simp)]
    have OF:Hid (wz.ownsRow u 91 2 (Y (T (Q gs 0 Z)) ((ci L ⟨t,tx⟩ t (ZU L)).length+1) cs) (ZU LS) (LS.flatMap bF)):=by show World.ownsRow _ _ _ _ _ _ _;rw[x.i,ZQ,cM,J2];simpa using OZ.i
    have la:=g.i;have fd:=ZR.i;exact bp (v:=.tuple #[ZJ #[Y (T (Q gs 0 Z)) ((ci L ⟨t,tx⟩ t (ZU L)).length+1) cs,Y ta (ZU R) tc],J I 0]) (by simp[results,UM,go_sem,r0,r1]) rfl ⟨_,_,R,rfl,aE (aH (aH (aH OF (R:=X) (j:=0) (by omega) _) (R:=B (z w)+1) (j:=0) (by omega) _) (R:=B (z w)+1) (j:=1) (by omega) _) (by omega),iV (((RX _ ((n8.k (ZN.P (by omega))).setCell (p:=(Q X 0 Z)) ly _)).set (X:=B (z w)+1) (j:=0) (by omega) _).set (X:=B (z w)+1) (j:=1) (by omega) _) (by omega),HM,(((B4.k (ZN.P (by omega))).setCell (by simp;omega) _).setCell (by simp) _).setCell (by simp) _⟩
def nF (a0:O_)(n0 c0:Nat)(f0:Nat->Source)(a1:O_)(n1 c1:Nat)(f1:Nat->Target)(t:F_)(w:E)(hn0:(n0:Int)<=1048576)(hn1:(n1:Int)<=1048576)(ZL:Qx w a0 n0 f0)(ZO:Qq w a1 n1 f1)(ZQ:∀i,i<n1->aP (f1 i))(hs:∀i,i<n1->∀j,j<(f1 i).h->((f1 i).u j).s.size<=maxLen):Calls Tryz.prog 15 #[ZJ #[Y a0 n0 c0,Y a1 n1 c1],U t] w λe w'=>∃v0 v1 R,e=ZI (.tuple #[ZJ #[v0,v1],J I (ig n0 f0 n1 f1 t)])/\w'.ownsRow (B (z w)) 91 2 v0 (eB n0 f0 n1 f1 t).length ((eB n0 f0 n1 f1 t).flatMap bF)/\TRow w' (B (z w)) v1 R/\R.map (·.1)=fa n0 f0 n1 f1 t/\Below (B (z w)) w w':=by
 have V0:=ae ZL;have V1:=ae ZO;have HF:=ae ZQ;have HS:=ae hs;clear ZL ZO ZQ hs;obtain⟨C,hC⟩:∃C,C=aR n0 f0 n1 f1:=⟨_,rfl⟩
 obtain⟨D,M⟩:∃D,D=ig n0 f0 n1 f1 t:=⟨_,rfl⟩
 obtain⟨LS,H⟩:∃LS,LS=eB n0 f0 n1 f1 t:=⟨_,rfl⟩
 obtain⟨LT,ZT⟩:∃LT,LT=fa n0 f0 n1 f1 t:=⟨_,rfl⟩
 rw[<-M,<-H,<-ZT];have HC:=ae hC;have HD:=ae (M.k (by unfold ig;rw[<-hC]));have n:=ae (H.k (by unfold eB;rw[<-M]));have u:=ae (ZT.k (by unfold fa;rw[<-M]));clear hC M H ZT;obtain⟨W,ZX⟩:∃W:E,ZV (ZV w (N #[Y a0 n0 c0,Y a1 n1 c1] 29)) (N #[Y Z 0 0,Y Z 0 0] 29)=W:=⟨_,rfl⟩
 obtain⟨P,-,-,-⟩:=nb2 ZX;have V:=ae ZX;clear ZX;have S:=ae (uJ w (Y a0 n0 c0) (Y a1 n1 c1) 29);go_enter Tryz.func15,Tryz.ntmps15;go_wp2_with fail;rw[V.i] at S ⊢;clear V;refine(eK a0 n0 c0 f0 a1 n1 c1 f1 _ hn0 hn1 (V0.aa P ly) (V1.aa P ly) HF HS).P ?_;rintro e w1⟨rfl,b⟩;rw[<-HC.i];have ZS:=ae (S.aa b S.lt');have ZP:=ae (P.k (b.P P.size));clear b P S;by_cases hc:C=0;case neg =>
  have h:=HD.i;rw[eT hc] at h;have g:=n.i;rw[eI (by omega)] at g;have f:=u.i;rw[eI (by omega)] at f;subst h g f;have hc':(C == 0)=ZA:=by simpa using hc
  obtain⟨r0,q0⟩:=ZS.r0;obtain⟨r1,q1⟩:=ZS.r1;go_wp2;exact bp (v:=.tuple #[ZJ #[Y Z 0 0,Y Z 0 0],J I 1]) (by simp[results,YJ,go_sem,r0,r1]) rfl ⟨_,_,[],rfl,CP _ _ _ _,dq _ _,rfl,(ZP.setCell (by simp) _).setCell (by simp) _⟩
 subst hc;have hz:=lT HC.c;have HZ:=ae hz;clear hz HC;have L:=HD.i;rw[eI (by omega)] at L;have O:=ae L;clear L HD;go_wp2_with fail;refine(dl t _).P ?_;rintro e w2⟨rfl,b⟩;have m:=ae (ZS.aa b ZS.lt');have A:=ae (ZP.k (b.P ZP.size));clear b ZS ZP;cases hn:aA t with
 |false =>have h:=O.i;rw[eT hn] at h;have g:=n.i;rw[eI (by omega)] at g;have f:=u.i;rw[eI (by omega)] at f;subst h g f;clear hn;obtain⟨r0,q0⟩:=m.r0;obtain⟨r1,q1⟩:=m.r1;go_wp2;exact bp (v:=.tuple #[ZJ #[Y Z 0 0,Y Z 0 0],J I 2]) (by simp[results,YJ,go_sem,r0,r1]) rfl ⟨_,_,[],rfl,CP _ _ _ _,dq _ _,rfl,(A.setCell (by simp) _).setCell (by simp) _⟩
 |true =>
  have ZR:=O.i;rw[eI (by simp[hn])] at ZR;have ZN:=ae ZR;clear ZR O hn;have K:=m.a0;have ZY:=m.a1;go_wp2_with fail;refine(uM a0 n0 c0 a1 n1 c1 f0 t _ hn0 (V0.aa A ly)).P ?_;rintro e wS⟨r,rfl,o,b⟩;have y:=ae (m.aa b m.lt');have G:=ae (A.k (b.P A.size));clear b m A K ZY;have K:=y.a0;have ZY:=y.a1;by_cases hr:r<0;focus
   have ZM:Hid (aF (nm0 f0) n0 t=ZA):=by show _=ZA;rw[<-o];simpa using hr
   clear o;go_wp2_with fail;refine(ni a0 n0 c0 a1 n1 c1 f1 t _ hn1 (V1.aa G ly)).P ?_;rintro e w3⟨q,rfl,p,b⟩;have l:=ae (y.aa b y.lt');have x:=ae (G.k (b.P G.size));clear b y G K ZY;have K:=l.a0;have ZY:=l.a1;by_cases hq:q<0
   ·have hi:(aF (nm0 f0) n0 t || aF (nm1 f1) n1 t)=ZA:=by rw[ZM.i,<-p];simpa using hq
    clear p;have h:=ZN.i;rw[eT hi] at h;have g:=n.i;rw[eI (by omega)] at g;have f:=u.i;rw[eI (by omega)] at f;subst h g f;obtain⟨r0,q0⟩:=l.r0;obtain⟨r1,q1⟩:=l.r1;go_wp2;exact bp (v:=.tuple #[ZJ #[Y Z 0 0,Y Z 0 0],J I 4]) (by simp[results,YJ,go_sem,r0,r1]) rfl ⟨_,_,[],rfl,CP _ _ _ _,dq _ _,rfl,(x.setCell (by simp) _).setCell (by simp) _⟩
   have hi:(aF (nm0 f0) n0 t || aF (nm1 f1) n1 t)=ZH:=by rw[ZM.i,<-p];simpa using hq
   clear p
  rotate_left;focus
   have hi:(aF (nm0 f0) n0 t || aF (nm1 f1) n1 t)=ZH:=by rw[<-o];have:decide (0<=r)=ZH:=QD (by omega);rw[this];rfl
   clear o;have l:=y;have x:=G
  all_goals
   have h:=ZN.i;rw[eI (by simp[hi])] at h;have g:=n.i;rw[eT h] at g;have f:=u.i;rw[eT h] at f;subst h g f;go_wp2_with fail;refine(fH a0 n0 c0 f0 a1 n1 c1 f1 t _ hn0 hn1 (V0.aa x ly) (V1.aa x ly) HF).P ?_;rintro e w4⟨v0,v1,R,rfl,hO,hR,hM,b⟩;have X4:=ae (l.aa b l.lt');have hlt4:=l.lt;have B4:=ae (x.k (b.P x.size));obtain⟨sa,sc,rfl⟩:=aJ hO;obtain⟨ta,tc,rfl⟩:=aJ hR.y;have O4:=ae (aE (aH (aH (R:=B (z w)+1) (j:=0) hO (by omega) (Y sa (Qy f0 t n0).length sc)) (R:=B (z w)+1) (j:=1) (by omega) (Y ta (ZU R) tc)) (base':=B (z w)) (by omega));have T4:=ae (iV ((hR.set (X:=B (z w)+1) (j:=0) (by omega) (Y sa (Qy f0 t n0).length sc)).set (X:=B (z w)+1) (j:=1) (by omega) (Y ta (ZU R) tc)) (base':=B (z w)) (by omega));have HM:=ae hM;clear hO hR b hM K ZY;obtain⟨r0,q0⟩:=X4.r0;obtain⟨r1,q1⟩:=X4.r1;go_wp2;exact bp (v:=.tuple #[ZJ #[Y sa (Qy f0 t n0).length sc,Y ta (ZU R) tc],J I 0]) (by simp[results,YJ,go_sem,r0,r1]) rfl ⟨_,_,R,rfl,O4,T4,HM,(B4.setCell (by simp) _).setCell (by simp) _⟩
