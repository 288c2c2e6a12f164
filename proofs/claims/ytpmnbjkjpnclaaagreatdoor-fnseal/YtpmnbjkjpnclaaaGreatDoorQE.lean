import Derived.Test.YtpmnbjkjpnclaaaGreatDoorQB
import Derived.Deep.RegionHeld
set_option maxRecDepth 100000
set_option maxHeartbeats 8000000
set_option linter.unusedSimpArgs false
open Go renaming Addr.mk->Q,Value.slice->Z,Value.string->Y,Value.int->J,Obj.cells->N,IntKind.i64->I,World->M,Value->ZC,Ending.returned->ZF
open Option renaming none->U,some->T
open Bool renaming false->ZA,true->ZG
namespace Go.Proofs.YtpmnbjkjpnclaaaGreatDoor.Vp
section
variable {P:Program}{ops:Array Oper}{ZM:Exit->Act->M->Prop}{md:Region.Mode}{S:M->Prop}
theorem BU {i:Nat}{b:Oper}{v:ZC}{k:Nat}{l:Array Bool}{a:Act}{w:M}(hi:ops.toList[i]?=T b)(o:Region.noSelect ops=ZG)(g:Region.free md ops l i=ZG)(j:(Region.ready md ops l).contains i=ZG)
  (n:∀c a w,ZM (.panic c) (a.put b.dst v) w->ZM (.panic c) a w) (p:Region.wanted b (yielded ops a.tmps)=ZG) (m:∀w,S w->(execOp a.eval b).run P w=.ok (.value v) w) (f:S w)
  (h:wpAnyH P md ops ZM S k (l.setIfInBounds i ZG) (a.put b.dst v) w):wpAnyH P md ops ZM S (k+1) l a w:=by
 rw[LY] at hi;exact wpAnyH_take hi o g j n (.inl ⟨p,λw f=>m w f⟩) f h
def nxS:List Bool->Nat->Option Nat
 |[],_=>U
 |true::l,j=>nxS l (j+1)
 |false::_,j=>T j
theorem bI (j:Nat){i:Nat}{b:Oper}{v:ZC}{k:Nat}{l:Array Bool}{a:Act}{w:M}(_:nxS (l.toList.drop j) j=T i)(hi:ops.toList[i]?=T b)(f:(Region.noSelect ops && Region.free md ops l i && (Region.ready md ops l).contains i)=ZG)
  (n:∀c a w,ZM (.panic c) (a.put b.dst v) w->ZM (.panic c) a w) (o:Region.wanted b (yielded ops a.tmps)=ZG) (g:∀w,S w->(execOp a.eval b).run P w=.ok (.value v) w) (m:S w)
  (h:wpAnyH P md ops ZM S k (l.setIfInBounds i ZG) (a.put b.dst v) w):wpAnyH P md ops ZM S (k+1) l a w:=by
 simp only[z8] at f;exact BU hi f.1.1 f.1.2 f.2 n o g m h
theorem aS {i:Nat}{o:Oper}{k:Nat}{l:Array Bool}{a:Act}{w:M}(c:ops.toList[i]?=T o)(f:Region.ready md ops l=[i])
  (h:∀b:Act->M->Prop,Shut (∀a w,S w->wpAnyH P md ops ZM S k (l.setIfInBounds i ZG) a w->b a w)->if Region.wanted o (yielded ops a.tmps)=ZG then Oper.wp P o a w b ZM else b (a.put o.dst undef) w) :
  wpAnyH P md ops ZM S (k+1) l a w:=by
 rw[LY] at c;exact wpAnyH_ready f (UE _ _) (AllReadyH.cons c (λb g=>h b (λa w j m=>g a w j (λ_=>m))) AllReadyH.nil)
theorem rh (j:Nat){i:Nat}{o:Oper}{k:Nat}{l:Array Bool}{a:Act}{w:M}(_:nxS (l.toList.drop j) j=T i)(f:ops.toList[i]?=T o)(c:Region.ready md ops l=[i])
  (h:∀b:Act->M->Prop,Shut (∀a w,S w->wpAnyH P md ops ZM S k (l.setIfInBounds i ZG) a w->b a w)->if Region.wanted o (yielded ops a.tmps)=ZG then Oper.wp P o a w b ZM else b (a.put o.dst undef) w) :
  wpAnyH P md ops ZM S (k+1) l a w:=aS f c h
end
end Go.Proofs.YtpmnbjkjpnclaaaGreatDoor.Vp
namespace Go.Proofs.YtpmnbjkjpnclaaaGreatDoor.Ca
section
variable {P:Program}{ops:Array Oper}{ZM:Exit->Act->M->Prop}{md:Region.Mode}{S:M->Prop}{n:Nat}
def dV (P:Program)(md:Region.Mode)(ops:Array Oper)(ZM:Exit->Act->M->Prop)(S:M->Prop)(n:Nat):Nat->Array Bool->Act->M->Prop
 |0,l,a,w=>Region.ready md ops l=[]/\ZM .normal a w
 |k+1,l,a,w=>(Region.ready md ops l=[]->ZM .normal a w)/\∀i∈Region.ready md ops l,wpOp P ops ZM i (λc b=>(i≠n->S b)/\dV P md ops ZM S n k (l.setIfInBounds i ZG) c b) a w
theorem uP:∀(k:Nat) (l:Array Bool) (a:Act) (w:M),dV P md ops ZM S n k l a w->wpAny P md ops ZM k l a w
 |0,_,_,_,h=>h
 |k+1,_,_,_,h=>⟨h.1,λi hi=>wpOp_mono (λc b x=>uP k _ c b x.2) (h.2 i hi)⟩
def waitsFor (md:Region.Mode)(ops:Array Oper)(n i:Nat):Bool:=match ops[n]? with
 |some o=>o.after.any λe=>Region.binds md e && e.on == i
 |none=>ZA
theorem BV {i:Nat}{o:Oper}(h:waitsFor md ops n i=ZG)(c:ops[n]?=T o)(hn:∀e∈o.after,Region.binds md e=ZG->e.on≠i):False:=by unfold waitsFor at h;simp only[c] at h;obtain⟨e,b,h2⟩:=Array.any_eq_true'.1 h;simp only[Bool.and_eq_true,beq_iff_eq] at h2;exact hn e b h2.1 h2.2
theorem zI {i:Nat}{p:Oper}{v:ZC}(hi:ops[i]?=T p)(r:∀(j:Nat) (o:Oper) t b,ops[j]?=T o->o.op≠.select t b)(O:∀c a w,ZM (.panic c) (a.put p.dst v) w->ZM (.panic c) a w)(ZO:waitsFor md ops n i=ZG):∀(k:Nat) (l:Array Bool) (a:Act) (w:M),(∀j g,ops[j]?=T g->j≠i->l.getD j ZG=ZA->(∀e∈g.after,Region.binds md e=ZG->e.on≠i)->p.apart ops g=ZG) ->
   i∈Region.ready md ops l->YieldsIf P ops S p v a->S w->dV P md ops ZM S n k (l.setIfInBounds i ZG) (a.put p.dst v) w->dV P md ops ZM S n (k+1) l a w:=by
 intro k;induction k with
 |zero =>
  intro l a w _ s u q H;refine⟨λe=>absurd s (by rw[e];exact List.not_mem_nil),λj y=>?_⟩;rcases Decidable.em (j=i) with rfl|f;{exact u.wpOp hi q ⟨λ_=>q,H⟩};{exact absurd (ready_mono y f) (by rw[H.1];exact List.not_mem_nil)}
 |succ k ZQ =>
  intro l a w D s u q H;refine⟨λe=>absurd s (by rw[e];exact List.not_mem_nil),λj y=>?_⟩;rcases Decidable.em (j=i) with rfl|f;{exact u.wpOp hi q ⟨λ_=>q,H⟩};{obtain⟨F,g,h,C⟩:=mem_ready.1 y;have A:∀e∈g.after,Region.binds md e=ZG->e.on≠i:=λe R hb x=>(by have h1:=C e R hb;have E:=(mem_ready.1 s).1;rw[x] at h1;rcases Nat.lt_or_ge i l.size with B|B;{simp[B] at E h1;rw[E] at h1;cases h1};{simp[Array.getElem?_eq_none B] at h1});have z:j≠n:=λe=>BV ZO (e ▸ h) A;refine wpOp_mono (λZJ L x=>⟨λ_=>x.2.1 z,ZQ _ ZJ L (λm ZL V ZN ZP K=>D m ZL V ZN ?_ K) (ready_mono s (Ne.symm f)) x.1 (x.2.1 z) ?_⟩) (wpOp_putIf h (D j g h f F A) (λt b=>r i p t b hi) (λt b=>r j g t b h) O u (H.2 j (ready_mono y f)));{rcases Decidable.em (j=m) with rfl|G;{exact F};{rwa[getD_set_ne ZG G] at ZP}};{rw[Array.setIfInBounds_comm _ _ f];exact x.2.2}}
theorem kv {i:Nat}{b:Oper}{v:ZC}{k:Nat}{l:Array Bool}{a:Act}{w:M}(hi:ops.toList[i]?=T b)(q:Region.noSelect ops=ZG)(f:Region.free md ops l i=ZG)(g:(Region.ready md ops l).contains i=ZG)(o:waitsFor md ops n i=ZG)
  (p:∀c a w,ZM (.panic c) (a.put b.dst v) w->ZM (.panic c) a w) (r:b.guard=U) (j:∀w,S w->(execOp a.eval b).run P w=.ok (.value v) w) (m:S w)
  (h:dV P md ops ZM S n k (l.setIfInBounds i ZG) (a.put b.dst v) w):dV P md ops ZM S n (k+1) l a w:=by
 rw[Array.getElem?_toList] at hi;exact zI hi (Region.noSelect_spec q) p o k l a w (Region.free_spec hi f) (by simpa using g) (.inl ⟨by simp[Region.wanted,r],j⟩) m h
def nxA:List Bool->Nat->Option Nat
 |[],_=>U
 |true::l,j=>nxA l (j+1)
 |false::_,j=>T j
theorem aI (j:Nat){i:Nat}{b:Oper}{v:ZC}{k:Nat}{l:Array Bool}{a:Act}{w:M}(_:nxA (l.toList.drop j) j=T i)(hi:ops.toList[i]?=T b)(f:(Region.noSelect ops && Region.free md ops l i && (Region.ready md ops l).contains i && waitsFor md ops n i)=ZG)
  (o:∀c a w,ZM (.panic c) (a.put b.dst v) w->ZM (.panic c) a w) (p:b.guard=U) (g:∀w,S w->(execOp a.eval b).run P w=.ok (.value v) w) (m:S w)
  (h:dV P md ops ZM S n k (l.setIfInBounds i ZG) (a.put b.dst v) w):dV P md ops ZM S n (k+1) l a w:=by
 simp only[Bool.and_eq_true] at f;exact kv hi f.1.1.1 f.1.1.2 f.1.2 f.2 o p g m h
theorem ah {i:Nat}{o:Oper}{k:Nat}{l:Array Bool}{a:Act}{w:M}(g:ops.toList[i]?=T o)(c:Region.ready md ops l=[i])
  (h:∀b:Act->M->Prop,Shut (∀a w,(i≠n->S w)->dV P md ops ZM S n k (l.setIfInBounds i ZG) a w->b a w)->if Region.wanted o (yielded ops a.tmps)=ZG then Oper.wp P o a w b ZM else b (a.put o.dst undef) w) :
  dV P md ops ZM S n (k+1) l a w:=by
 rw[Array.getElem?_toList] at g;refine⟨λe=>absurd e (by rw[c];exact List.cons_ne_nil _ _),λj f=>?_⟩;rw[c] at f;obtain rfl:=List.mem_singleton.1 f;exact wpOp_step g λb m=>h b λa w p q=>m a w ⟨p,q⟩
theorem cD (j:Nat){i:Nat}{o:Oper}{k:Nat}{l:Array Bool}{a:Act}{w:M}(_:nxA (l.toList.drop j) j=T i)(f:ops.toList[i]?=T o)(c:Region.ready md ops l=[i])
  (h:∀b:Act->M->Prop,Shut (∀a w,(i≠n->S w)->dV P md ops ZM S n k (l.setIfInBounds i ZG) a w->b a w)->if Region.wanted o (yielded ops a.tmps)=ZG then Oper.wp P o a w b ZM else b (a.put o.dst undef) w) :
  dV P md ops ZM S n (k+1) l a w:=ah f c h
theorem aX {l:Array Bool}{a:Act}{w:M}(b:Region.ready md ops l=[])(h:ZM .normal a w)(k:Nat):dV P md ops ZM S n k l a w:=by
 cases k with
 |zero=>exact⟨b,h⟩
 |succ k=>exact⟨λ_=>h,by rw[b];intro i hi;cases hi⟩
theorem aD {id:Nat}{a:Act}{w:M}(S:M->Prop)(n:Nat)(b:P.follows .mixedOrders=ZG)(h:dV P .any ops ZM S n ops.size (Array.replicate ops.size ZA) a w.drew):(Code.region id ops ZG).wp P ZM a w :=
 wp_region_any b (uP _ _ _ _ h)
end
section
variable {P:Program}{ops:Array Oper}{ZM:Exit->Act->M->Prop}{md:Region.Mode}{S:M->Prop}{n:Nat}
theorem uQ {i j:Nat}{c g:Oper}{k:Nat}{l:Array Bool}{a:Act}{w:M}(hi:ops.toList[i]?=T c)(r:ops.toList[j]?=T g)(q:Region.ready md ops l=[i,j])
  (h1:∀b:Act->M->Prop,Shut (∀a w,(i≠n->S w)->dV P md ops ZM S n k (l.setIfInBounds i ZG) a w->b a w)->if Region.wanted c (yielded ops a.tmps)=ZG then Oper.wp P c a w b ZM else b (a.put c.dst undef) w)
  (h2:∀b:Act->M->Prop,Shut (∀a w,(j≠n->S w)->dV P md ops ZM S n k (l.setIfInBounds j ZG) a w->b a w)->if Region.wanted g (yielded ops a.tmps)=ZG then Oper.wp P g a w b ZM else b (a.put g.dst undef) w) :
  dV P md ops ZM S n (k+1) l a w:=by
 rw[Array.getElem?_toList] at hi r;refine⟨λe=>absurd e (by rw[q];exact List.cons_ne_nil _ _),λm f=>?_⟩;rw[q] at f;rcases List.mem_cons.1 f with rfl|f;{exact wpOp_step hi λb o=>h1 b λa w h p=>o a w ⟨h,p⟩};{obtain rfl:=List.mem_singleton.1 f;exact wpOp_step r λb o=>h2 b λa w h p=>o a w ⟨h,p⟩}
end
end Go.Proofs.YtpmnbjkjpnclaaaGreatDoor.Ca
namespace Go.Proofs.YtpmnbjkjpnclaaaGreatDoor.Vp
section
variable {P:Program}{ops:Array Oper}{ZM:Exit->Act->M->Prop}{md:Region.Mode}{S:M->Prop}
theorem pc {i j:Nat}{c f:Oper}{k:Nat}{l:Array Bool}{a:Act}{w:M}(hi:ops.toList[i]?=T c)(n:ops.toList[j]?=T f)(o:Region.ready md ops l=[i,j])
  (h1:∀b:Act->M->Prop,Shut (∀a w,S w->wpAnyH P md ops ZM S k (l.setIfInBounds i ZG) a w->b a w)->if Region.wanted c (yielded ops a.tmps)=ZG then Oper.wp P c a w b ZM else b (a.put c.dst undef) w)
  (h2:∀b:Act->M->Prop,Shut (∀a w,S w->wpAnyH P md ops ZM S k (l.setIfInBounds j ZG) a w->b a w)->if Region.wanted f (yielded ops a.tmps)=ZG then Oper.wp P f a w b ZM else b (a.put f.dst undef) w) :
  wpAnyH P md ops ZM S (k+1) l a w:=by
 rw[LY] at hi n;exact wpAnyH_ready o (UE _ _) (AllReadyH.cons hi (λb h=>h1 b (λa w g m=>h a w g (λ_=>m))) (AllReadyH.cons n (λb h=>h2 b (λa w g m=>h a w g (λ_=>m))) AllReadyH.nil))
end
open RowKit Ca
theorem gu (a0:Option Addr)(n0 c0:Nat)(f0:Nat->Source)(a1:Option Addr)(n1 c1:Nat)(f1:Nat->Target)(t:ByteArray)(w:M)(hn0:(n0:Int)<=1048576)(hn1:(n1:Int)<=1048576)(ZQ:SlSource w a0 n0 f0)(ZO:SlTarget w a1 n1 f1)(G:∀i,i<n1->cT (f1 i)):Calls Tryz.prog 91 #[.agg #[Z a0 n0 c0,Z a1 n1 c1],Y t] w λe X=>∃s r R,e=ZF (.agg #[s,r])/\X.ownsRow (w.heap.size+3) 142 2 s (bX f0 t n0).length ((bX f0 t n0).flatMap bK)/\TRow X (w.heap.size+3) r R/\R.map (·.1)=keepT f1 t n1/\Below w.heap.size w X:=by
 have V0:=ae ZQ;have V1:=ae ZO;have HF:=ae G;clear ZQ ZO G;obtain⟨ph,hi,ld,ur,At⟩:=L8 lI;obtain⟨mv,hj,ro,ZI,bt⟩:=L8 gR;have A0:=ae ((((q9 w).alloc ly (N #[Z a0 n0 c0,Z a1 n1 c1] 27)).alloc (by simp) (N #[Z U 0 0,Z U 0 0] 27)).alloc (by simp;omega) (N #[Z U 0 0,Z U 0 0] 27));have X0:=ae (BR w (Z a0 n0 c0) (Z a1 n1 c1) 27);go_enter Tryz.func91,Tryz.ntmps91;go_wp2;generalize ((w.alloc (N #[Z a0 n0 c0,Z a1 n1 c1] 27)).alloc (N #[Z U 0 0,Z U 0 0] 27)).alloc (N #[Z U 0 0,Z U 0 0] 27)=W at A0 X0 ⊢;go_loopw [6] (λi wr=>∃(k:Nat) (s:ZC),k<=n0/\i=J I k/\Hid (Boxes wr w.heap.size (Z a0 n0 c0) (Z a1 n1 c1) s (Z U 0 0))/\Hid (wr.ownsRow (w.heap.size+3) 142 2 s (bX f0 t k).length ((bX f0 t k).flatMap bK))/\Hid (Below w.heap.size w wr)) (λi _=>n0 - (intOf i).toNat);case atStart=>exact⟨0,_,by omega,rfl,X0,A9 _ _ _ _,A0⟩
 case round =>
  obtain⟨k,s,hk,rfl,f,D,q⟩:=hrel;have ZL:=f.lt;by_cases z:k<n0
  ·obtain⟨b,off,rfl,y⟩:=V0.resolve_left (by omega);obtain⟨ZK,O⟩:=(y.2 k z).aa q y.1;clear y;have hll:=kq f0 t k;have ZJ:=f.a0;cases hq:((f0 k).e.toList == t.toList) with
   |true =>have C:=ae hq;go_wp2;exact⟨⟨k+1,s,by omega,by go_num,f,by show World.ownsRow _ _ _ _ _ _ _;rw[zD C.out];exact D,q⟩,by simp[intOf];omega⟩
   |false =>
    have C:=ae hq;obtain⟨x0,y0⟩:=f.o0;have u:=ae ((dB (w.heap.size+3) wr).drew.alloc (by simp;omega) (N #[Y (f0 k).e,Y (f0 k).B] 142));go_wp2_with fail
    go_region_law (first
     |(refine eK rfl (.tmp 25) (.tmp 31) 24 rfl (w.heap.size+3) 142 ph (.agg #[Y ⟨#[]⟩,Y ⟨#[]⟩]) 2 32 RC hi ld ur At rfl (by decide) s (bX f0 t k).length ((bX f0 t k).flatMap bK) (by simp[Act.eval]) (D.drew.alloc _) (Q wr.heap.size 0 U) 1 1 (bK (f0 k)) (by simp[Act.eval]) rfl (du wr.drew _ _ _) (by simp[bK,Value.oneCell']) (by unfold maxLen;omega) (by omega) (by simp<;>omega) ?_;intro v' w2 n l A;obtain⟨gs,cs,rfl⟩:=fu n (by omega);have O2:=ae n;have P:=ae (bg u l (by simp<;>omega) (λj e=>(D.lt j e).1));obtain⟨x2,y2⟩:=(f.aa P ly).o0;clear n l A))
    all_goals
     clear x0 y0 ZJ;go_wp2;exact⟨⟨k+1,_,by omega,by go_num,(f.aa P ly).set0 _,by show World.ownsRow _ _ _ _ _ _ _;rw[zE C.out,cM,BO];simpa using aQ O2.out (by omega) _,(q.trans (P.mono (by omega))).setCell (by simp;omega) _⟩,by simp[intOf];omega⟩
  ·have e:n0=k:=by omega
   subst e;have ZJ:=f.a0;have L:=f.a1;go_wp2;clear ZJ L z hk;generalize wr=W1 at f D q ZL ⊢;go_loopw [7] (λi wr=>∃(k:Nat) (r:ZC) (R:List TR),k<=n1/\i=J I k/\Hid (Boxes wr w.heap.size (Z a0 n0 c0) (Z a1 n1 c1) s r)/\Hid (wr.ownsRow (w.heap.size+3) 142 2 s (bX f0 t n0).length ((bX f0 t n0).flatMap bK))/\Hid (TRow wr (w.heap.size+3) r R)/\Hid (R.map (·.1)=keepT f1 t k)/\Hid (Below w.heap.size w wr)) (λi _=>n1 - (intOf i).toNat);case atStart=>exact⟨0,_,[],by omega,rfl,f,D,dh _ _,rfl,q⟩
   case round =>
    clear f D q;obtain⟨k,r,R,hk,rfl,f,E,B,ZN,q⟩:=hrel;have hlt4:=f.lt;by_cases z:k<n1
    ·obtain⟨b,off,rfl,y⟩:=V1.resolve_left (by omega);obtain⟨ZK,ka,kc,O,hx⟩:=(y.2 k z).aa q ly y.1;have HX:=ae hx;have la:=y.1;clear y hx;have hRl:R.length<=1048576:=by have h1:=wA List.length ZN.out;have h2:=ku f1 t k;simp at h1;omega
     have fd:((f1 k).f:Int)<=1048576:=by have:=HF.out k z;unfold cT at this;omega
     have L:=f.a1;have sm:¬ b=w.heap.size+1+1:=by omega
     have S:¬ w.heap.size+1+1=b:=by omega
     have hbw:b<wr.heap.size:=lj la q.size;cases hq:((f1 k).e.toList == t.toList) with
     |true =>have C:=ae hq;go_wp2;exact⟨⟨k+1,r,R,by omega,by go_num,f,E,B,by show _=keepT f1 t (k+1);rw[zF C.out];exact ZN,q⟩,by simp[intOf];omega⟩
     |false =>
      have C:=ae hq;have ST:Hid (∀V,Below (w.heap.size+3) wr V->(V.cell? (Q (w.heap.size+1+1) 1 U)=T r/\w.heap.size+1+1<V.heap.size)/\(V.cell? (Q w.heap.size 1 U)=T (Z (T (Q b off U)) n1 c1)/\w.heap.size<V.heap.size)/\V.cell? (Q b (off+k*2) U)=T (Y (f1 k).e)/\V.cell? (Q b (off+k*2+1) U)=T (Z ka (f1 k).f kc)/\b<V.heap.size):=λV ZP=>by have hz:=ZP.size;have h:=f.aa ZP ly;exact⟨⟨h.o1.1,by have:=h.lt;omega⟩,⟨h.a1,by have:=h.lt;omega⟩,(ZP.cell (p:=(Q b (off+k*2) U)) (by show b<w.heap.size+3;omega)).trans ZK,(ZP.cell (p:=(Q b (off+k*2+1) U)) (by show b<w.heap.size+3;omega)).trans O,by omega⟩
      have u:=ae (q9 wr).drew;have hki:(k:Int)<(n1:Int):=by omega
      go_wp2_with fail;refine aD (λV=>(V.cell? (Q (w.heap.size+1+1) 1 U)=T r/\w.heap.size+1+1<V.heap.size)/\(V.cell? (Q w.heap.size 1 U)=T (Z (T (Q b off U)) n1 c1)/\w.heap.size<V.heap.size)/\V.cell? (Q b (off+k*2) U)=T (Y (f1 k).e)/\V.cell? (Q b (off+k*2+1) U)=T (Z ka (f1 k).f kc)/\b<V.heap.size) 19 (by kernel_rfl) ?_;have o:=ae (ST _ (u.mono (by omega)));clear L ZK O sm S;generalize wr.drew=v2 at u o ⊢;iterate 14
       refine aI 0 (v:=?_) rfl rfl (by kernel_rfl) (λ_ _ _ h=>h) rfl ?_ o ?_;rotate_left
       ·(intro wz th;obtain⟨⟨s0,s1⟩,⟨s2,s3⟩,s4,s5,s6⟩:=th;go_simp)
        (try with_reducible rfl)
       (try simp only[Act.put,nzL])
      refine ah (i:=14) rfl (by kernel_rfl) λK m=>?_;go_simp;go_at_call 93;refine(jm ka (f1 k).f kc (f1 k).H _ fd (HX.aa u ly)).mono ?_;rintro e wC ⟨g,c,rfl,ZM,hB⟩;have DC:=ae (u.trans (hB.mono u.size));have n9:=DC.size;have qr:=(dM ZM).1;have hz1:=u.size;have OC:=ae (aB ZM (base':=w.heap.size+3) (by omega));have aq:wr.heap.size<=g:=by omega
      clear hB ZM qr o;have o:=ae (ST _ (DC.mono (by omega)));refine m _ _ (λ_=>o) ?_;clear m K
      (try simp only[Act.put,nzL])
      refine ah (i:=15) rfl (by kernel_rfl) λK m=>?_;go_simp;refine m _ _ (λ_=>o) ?_;clear m K o
      (try simp only[Act.put,nzL])
      have H:=ae (DC.alloc n9 (N #[Y (f1 k).e,Z (T (Q g 0 U)) (f1 k).f c] 146));have o:=ae (ST _ (H.mono (by omega)));refine ah (i:=16) rfl (by kernel_rfl) λK m=>?_;go_simp;refine m _ _ (λ_=>o) ?_;clear m K o
      (try simp only[Act.put,nzL])
      refine ah (i:=17) rfl (by kernel_rfl) λK m=>?_;refine eK rfl (.tmp 50) (.tmp 65) 25 rfl (w.heap.size+3) 146 mv (.agg #[Y ⟨#[]⟩,Z U 0 0]) 2 40 QH hj ro ZI bt rfl (by decide) r R.length (R.flatMap bj) (by simp[Act.eval]) ((B.aa DC ly).i.alloc _) (Q wC.heap.size 0 U) 1 1 (bj (f1 k,g,c)) (by simp[Act.eval]) rfl (du wC _ _ _) (by simp[bj,Value.oneCell']) (by unfold maxLen;omega) (by omega) (by simp;omega) ?_;intro v' w2 n l A;obtain⟨gs,cs,rfl⟩:=fu n (by omega);have T2:=ae (B.more (x:=f1 k) (g:=g) (c:=c) H aq (by omega) (OC.alloc _) n l);have E2:=ae (bg (H.mono (show w.heap.size+3<=wr.heap.size by omega)) l (by simp;omega) (λj e=>(B.i.lt j e).1));have dg:=ae ((own_below E H ly).kept l (BP (own_below E H ly) ((B.aa DC ly).i.alloc _) (by decide)));have F:=ae (f.aa E2 ly);obtain⟨x2,y2⟩:=F.o1;have hz2:=F.lt;have o:=ae (ST _ E2);clear n l A;refine m _ _ (λ_=>o) ?_;clear m K
      (try simp only[Act.put,nzL])
      refine ah (i:=18) rfl (by kernel_rfl) λK m=>?_;go_simp;refine m _ _ (λ_=>o) ?_;clear m K
      (try simp only[Act.put,nzL])
      have hz3:w.heap.size+1+1<w2.heap.size:=by omega
      refine ah (i:=19) rfl (by kernel_rfl) λK m=>?_;go_simp;refine m _ _ (λh=>absurd rfl h) ?_;clear m K o
      (try simp only[Act.put,nzL])
      refine aX (by kernel_rfl) ?_ _;clear x2 y2;go_wp2;exact⟨⟨k+1,_,R++[(f1 k,g,c)],by omega,by go_num,F.set1 _,aQ dg (by omega) _,T2.set (by omega) _,by show _=keepT f1 t (k+1);rw[zG C.out,DN,ZN.out];rfl,(q.trans (E2.mono (by omega))).setCell (by simp;omega) _⟩,by simp[intOf];omega⟩
    ·have e:n1=k:=by omega
     subst e;have L:=f.a1;obtain⟨sa,sc,rfl⟩:=aU E;obtain⟨ta,tc,rfl⟩:=aU B.i;obtain⟨r0,q0⟩:=f.r0;obtain⟨r1,q1⟩:=f.r1;obtain⟨m0,_⟩:=f.o0;obtain⟨m1,_⟩:=f.o1;go_wp2;exact bp (v:=.agg #[Z sa _ sc,Z ta _ tc]) (by simp[results,Tryz.results91,go_sem,r0,r1]) rfl ⟨_,_,R,rfl,aQ (aQ E (by omega) _) (by omega) _,(B.set (by omega) _).set (by omega) _,ZN,(q.setCell (by simp) _).setCell (by simp) _⟩
theorem uR (a0:Option Addr)(n0 c0:Nat)(f0:Nat->Source)(a1:Option Addr)(n1 c1:Nat)(f1:Nat->Target)(t tx:ByteArray)(w:M)(hn0:(n0:Int)<=1048576)(hn1:(n1:Int)<=1048576)(DQ:SlSource w a0 n0 f0)(DE:SlTarget w a1 n1 f1)(qr:∀i,i<n1->cT (f1 i))(hs:∀i,i<n1->∀j,j<(f1 i).f->((f1 i).H j).s.size<=maxLen):Calls Tryz.prog 33 #[.agg #[Z a0 n0 c0,Z a1 n1 c1],Y t,Y tx] w λe ZJ=>∃v0 v1 R,e=ZF (.tuple #[.agg #[v0,v1],J I (o9 n0 f0 n1 f1 t tx)])/\ZJ.ownsRow w.heap.size 142 2 v0 (mc n0 f0 n1 f1 t tx).length ((mc n0 f0 n1 f1 t tx).flatMap bK)/\TRow ZJ w.heap.size v1 R/\R.map (·.1)=pa n0 f0 n1 f1 t tx/\Below w.heap.size w ZJ:=by
 have V0:=ae DQ;have V1:=ae DE;have HF:=ae qr;have HS:=ae hs;clear DQ DE qr hs;obtain⟨ZO,ZP,E,H,F⟩:=L8 lI;obtain⟨C,hC⟩:∃C,C=ce n0 f0 n1 f1:=⟨_,rfl⟩
 obtain⟨D,hD⟩:∃D,D=o9 n0 f0 n1 f1 t tx:=⟨_,rfl⟩
 obtain⟨LS,ro⟩:∃LS,LS=mc n0 f0 n1 f1 t tx:=⟨_,rfl⟩
 obtain⟨LT,th⟩:∃LT,LT=pa n0 f0 n1 f1 t tx:=⟨_,rfl⟩
 rw[<-hD,<-ro,<-th];have HC:=ae hC;have HD:=ae (hD.trans (by unfold o9;rw[<-hC]));have x:=ae (ro.trans (by unfold mc;rw[<-hD]));have aq:=ae (th.trans (by unfold pa;rw[<-hD]));clear hC hD ro th;obtain⟨W,ur⟩:∃W:M,(w.alloc (N #[Z a0 n0 c0,Z a1 n1 c1] 27)).alloc (N #[Z U 0 0,Z U 0 0] 27)=W:=⟨_,rfl⟩
 obtain⟨A0,-,-,-⟩:=nb2 ur;have Bk:=ae ur;clear ur;have X0:=ae (uG w (Z a0 n0 c0) (Z a1 n1 c1) 27);go_enter Tryz.func33,Tryz.ntmps33;go_wp2_with fail;rw[Bk.out] at X0 ⊢;clear Bk;refine(fB a0 n0 c0 f0 a1 n1 c1 f1 _ hn0 hn1 (V0.aa A0 ly) (V1.aa A0 ly) HF HS).mono ?_;rintro e w1 ⟨rfl,u⟩;rw[<-HC.out];have X1:=ae (X0.aa u X0.lt');have B1:=ae (A0.trans (u.mono A0.size));clear u A0 X0;by_cases hc:C=0;case neg =>
  have hd:=HD.out;rw[p6 hc] at hd;have q:=x.out;rw[gM (by omega)] at q;have n:=aq.out;rw[gM (by omega)] at n;subst hd q n;have hc':(C == 0)=ZA:=by simpa using hc
  obtain⟨r0,q0⟩:=X1.r0;obtain⟨r1,O⟩:=X1.r1;go_wp2;exact bp (v:=.tuple #[.agg #[Z U 0 0,Z U 0 0],J I 1]) (by simp[results,T9,go_sem,r0,r1]) rfl ⟨_,_,[],rfl,A9 _ _ _ _,dh _ _,rfl,(B1.setCell (by simp) _).setCell (by simp) _⟩
 subst hc;have hz:=ma HC.symm;have HZ:=ae hz;clear hz HC;have sm:=HD.out;rw[gM (by omega)] at sm;have la:=ae sm;clear sm HD;go_wp2_with fail;refine(dc t _).mono ?_;rintro e w2 ⟨rfl,u⟩;have ZQ:=ae (X1.aa u X1.lt');have ZL:=ae (B1.trans (u.mono B1.size));clear u X1 B1;by_cases m:aw t=ZA∨2000<(tx.size:Int)
 ·have hd:=la.out;rw[p6 m] at hd;have q:=x.out;rw[gM (by omega)] at q;have n:=aq.out;rw[gM (by omega)] at n;subst hd q n;obtain⟨r0,q0⟩:=ZQ.r0;obtain⟨r1,O⟩:=ZQ.r1;cases hn:aw t with
  |false =>clear m;go_wp2;exact bp (v:=.tuple #[.agg #[Z U 0 0,Z U 0 0],J I 2]) (by simp[results,T9,go_sem,r0,r1]) rfl ⟨_,_,[],rfl,A9 _ _ _ _,dh _ _,rfl,(ZL.setCell (by simp) _).setCell (by simp) _⟩
  |true =>have Fd:(2000:Int)<tx.size:=m.resolve_left (by simp[hn]);clear m;go_wp2;exact bp (v:=.tuple #[.agg #[Z U 0 0,Z U 0 0],J I 2]) (by simp[results,T9,go_sem,r0,r1]) rfl ⟨_,_,[],rfl,A9 _ _ _ _,dh _ _,rfl,(ZL.setCell (by simp) _).setCell (by simp) _⟩
 have ph:=la.out;rw[gM m] at ph;have DH:=ae ph;have hn:aw t=ZG:=by
  cases h:aw t with
  |true=>rfl
  |false=>exact absurd (.inl h) m
 have Fd:¬ (2000:Int)<tx.size:=λh=>m (.inr h);clear ph la m;have k0:=ZQ.a0;have k1:=ZQ.a1;rw[hn];go_wp2_with fail;refine(gu a0 n0 c0 f0 a1 n1 c1 f1 t _ hn0 hn1 (V0.aa ZL ly) (V1.aa ZL ly) HF).mono ?_;rintro e w3 ⟨v0,v1,R,rfl,hO,hR,hM,u⟩;have hlt2:=ZQ.lt;have X3:=ae (ZQ.aa u ZQ.lt');have B3:=ae (ZL.trans (u.mono ZL.size));obtain⟨sa,sc,rfl⟩:=aU hO;obtain⟨ta,tc,rfl⟩:=aU hR.i;have eR:R.length=(keepT f1 t n1).length:=by rw[<-hM];simp
 have Fm:=kq f0 t n0;have Fk:=ku f1 t n1;obtain⟨L,hL⟩:∃L,L=bX f0 t n0:=⟨_,rfl⟩
 obtain⟨K,hK⟩:∃K,K=keepT f1 t n1:=⟨_,rfl⟩
 rw[<-hL] at hO Fm ⊢;rw[<-hK] at hM Fk eR;have A:=DH.out;rw[<-hL,<-hK] at A;have q:=x.out;rw[<-hL] at q;have n:=aq.out;rw[<-hK] at n;have ER:=ae eR;have hlr:R.length<=n1:=by omega
 clear DH x aq hL hK u k0 k1 hn ZQ ZL eR;have O3:=ae (aB hO (base':=w.heap.size) (by omega));have RX:Hid (∀ZJ,Below w3.heap.size w3 ZJ->TRow ZJ (w2.heap.size+3) (Z ta R.length tc) R):=λZJ hb=>hR.aa hb ly;have HM:=ae hM;have hll:(L.length:Int)<=1048576:=by omega
 clear hO hR hM;obtain⟨w4,V⟩:∃W:M,w3.alloc (N #[Z sa L.length sc,Z ta R.length tc] 27)=W:=⟨_,rfl⟩
 obtain⟨DB,-,fd⟩:=nb1 V;have n9:=ae V;clear V;have P:=ae (uL w3 (Z sa L.length sc) (Z ta R.length tc) 27);have X4:=ae (X3.aa DB X3.lt');have B4:=ae (B3.trans (DB.mono B3.size));have O4:=ae (own_below O3 DB ly);have ld:=ae DB.out;have At:w.heap.size+1<w3.heap.size:=X3.lt;have c8:=P.c0;have c9:=P.c1;clear O3 DB;by_cases hc3:(200:Int)<=L.length+R.length;{rw[p6 (by have:=ER.out;omega)] at A;rw[gM (by omega)] at q n;subst A q n;obtain⟨r0,q0⟩:=X3.r0;obtain⟨r1,O⟩:=X3.r1;clear c8 c9;go_wp2;exact bp (v:=.tuple #[.agg #[Z U 0 0,Z U 0 0],J I 3]) (by simp[results,T9,go_sem,r0,r1,At]) rfl ⟨_,_,[],rfl,A9 _ _ _ _,dh _ _,rfl,((B3.setCell (by simp) _).setCell (by simp) _).alloc (by have:=B3.size;simp;omega) _⟩};clear X3 B3;rw[gM (by have:=ER.out;omega)] at A;rw[p6 A] at q n;subst A n;have x:=ae q;clear q;go_wp2;rw[n9.out] at P c8 c9 ⊢;clear n9;generalize w3.heap.size=X at P c8 c9 At fd RX ld ⊢;obtain⟨r,mv⟩:∃r,r=w4.heap.size:=⟨_,rfl⟩
 have E0:Hid (Below r w4 (w4.alloc (N #[] 142))):=by rw[mv];exact br.alloc ly _
 have W0:Hid ((w4.alloc (N #[] 142)).ownsRow r 142 2 (Z (T (Q (X+1) 0 U)) 0 0) 0 []):=by rw[<-fd];exact PS w4 #[] 0 (by omega) (by unfold maxLen;omega) rfl
 have y:X<r:=by have:=P.lt;omega
 have f:=ae mv;have G:=ae fd;clear mv fd;go_loopw [9,10,11] (λv d i wr=>∃(k:Nat) (db:Bool),k<=L.length/\i=J I k/\d=.bool db/\Hid (db=fc L t k)/\Hid (wr.ownsRow r 142 2 v (bY L ⟨t,tx⟩ t k).length ((bY L ⟨t,tx⟩ t k).flatMap bK))/\Hid (Below r w4 wr)) (λ_ _ i _=>L.length - (intOf i).toNat);case atStart=>exact⟨0,ZA,by omega,rfl,rfl,rfl,W0,E0⟩
 case round =>
  obtain⟨k,db,hk,rfl,rfl,B,z,l⟩:=hrel;have e8:=(l.cell (p:=(Q X 0 U)) y).trans c8;have DS:=sG L ⟨t,tx⟩ t k;obtain⟨hlen1,ZK⟩:=DS;have HL2:=ae ZK;clear ZK;by_cases n:k<L.length
  ·obtain⟨b,off,rfl,hr⟩:=(x9 O4).resolve_left (by omega);obtain⟨p0,p1⟩:=hr.2 k n;have bt:b<r:=by have:=hr.1;have:=f.out;omega
   have d0:=(l.cell (p:=(Q b (off+k*2) U)) bt).trans p0;have d1:=(l.cell (p:=(Q b (off+k*2+1) U)) bt).trans p1;clear hr;cases db with
   |true =>
    have HI:Hid (bY L ⟨t,tx⟩ t (k+1)=bY L ⟨t,tx⟩ t k++[dd L k]):=by show(if _ then _ else _)=_;rw[gM (by rw[<-B.out];simp)]
    have HN:Hid (ZG=fc L t (k+1)):=by show ZG=(fc L t k || _);rw[<-B.out];rfl
    go_wp2_with (at_builtin;(refine BS _ rfl (.tmp 63) (.tmp 69) 24 rfl r 142 ZO (.agg #[Y ⟨#[]⟩,Y ⟨#[]⟩]) 2 32 RC ZP E H F rfl (by decide) _ (bY L ⟨t,tx⟩ t k).length ((bY L ⟨t,tx⟩ t k).flatMap bK) (by simp[Act.eval]) (z.alloc _) (Q wr.heap.size 0 U) 1 1 (bK (dd L k)) (by simp[Act.eval]) rfl (du wr _ _ _) (by simp[bK,Value.oneCell']) (by unfold maxLen;omega) (by omega) (by have:=l.size;have:=f.out;simp;omega) ?_;intro vy wy g c o;have OY:=ae g;have BY:=ae (bg (l.alloc (by have:=l.size;have:=f.out;omega) (N #[Y (dd L k).e,Y (dd L k).B] 142)) c (by have:=l.size;have:=f.out;simp;omega) (λj e=>(z.lt j e).1));clear g c o));exact⟨⟨k+1,ZG,by omega,by go_num,rfl,HN,by show World.ownsRow _ _ _ _ _ _ _;rw[HI.out,cM,BO];simpa using OY.out,BY⟩,by simp[intOf];omega⟩
   |false =>
    cases hq:eB t (dd L k).e with
    |true =>
     have HI:Hid (bY L ⟨t,tx⟩ t (k+1)=bY L ⟨t,tx⟩ t k++[⟨t,tx⟩]++[dd L k]):=by show(if _ then _ else _)=_;rw[p6 ⟨B.symm,hq⟩]
     have HN:Hid (ZG=fc L t (k+1)):=by show ZG=(fc L t k || _);rw[hq];simp
     obtain⟨O,q2⟩:=sF hq;clear hq;go_wp2_with (at_builtin;first|(refine BS _ rfl (.tmp 57) (.tmp 61) 24 rfl r 142 ZO (.agg #[Y ⟨#[]⟩,Y ⟨#[]⟩]) 2 32 RC ZP E H F rfl (by decide) _ (bY L ⟨t,tx⟩ t k).length ((bY L ⟨t,tx⟩ t k).flatMap bK) (by simp[Act.eval]) (z.alloc _) (Q wr.heap.size 0 U) 1 1 (bK ⟨t,tx⟩) (by simp[Act.eval]) rfl (du wr _ _ _) (by simp[bK,Value.oneCell']) (by unfold maxLen;omega) (by omega) (by have:=l.size;have:=f.out;simp;omega) ?_;intro vx wx g c o;have OX:=ae g;have S:=ae (bg (l.alloc (by have:=l.size;have:=f.out;omega) (N #[Y t,Y tx] 142)) c (by have:=l.size;have:=f.out;simp;omega) (λj e=>(z.lt j e).1));have f8:=(S.cell (p:=(Q X 0 U)) y).trans c8;have g0:=(S.cell (p:=(Q b (off+k*2) U)) bt).trans p0;have g1:=(S.cell (p:=(Q b (off+k*2+1) U)) bt).trans p1;clear g c o)|(refine BS _ rfl (.tmp 63) (.tmp 69) 24 rfl r 142 ZO (.agg #[Y ⟨#[]⟩,Y ⟨#[]⟩]) 2 32 RC ZP E H F rfl (by decide) _ ((bY L ⟨t,tx⟩ t k).length+1) ((bY L ⟨t,tx⟩ t k).flatMap bK++bK ⟨t,tx⟩) (by simp[Act.eval]) (OX.alloc _) (Q wx.heap.size 0 U) 1 1 (bK (dd L k)) (by simp[Act.eval]) rfl (du wx _ _ _) (by simp[bK,Value.oneCell']) (by unfold maxLen;omega) (by omega) (by have:=S.size;have:=f.out;simp;omega) ?_;intro vy wy g c o;have OY:=ae g;have BY:=ae (bg (S.alloc (by have:=S.size;have:=f.out;omega) (N #[Y (dd L k).e,Y (dd L k).B] 142)) c (by have:=S.size;have:=f.out;simp;omega) (λj e=>(OX.lt j e).1));clear g c o));exact⟨⟨k+1,ZG,by omega,by go_num,rfl,HN,by show World.ownsRow _ _ _ _ _ _ _;rw[HI.out,cM,cM,BO,BO];simpa using OY.out,BY⟩,by simp[intOf];omega⟩
    |false =>
     have HI:Hid (bY L ⟨t,tx⟩ t (k+1)=bY L ⟨t,tx⟩ t k++[dd L k]):=by show(if _ then _ else _)=_;rw[gM (by rw[hq];simp)]
     have HN:Hid (ZA=fc L t (k+1)):=by show ZA=(fc L t k || _);rw[<-B.out,hq];rfl
     have HQ:=ae (uK hq);clear hq;rcases HQ.out with O|⟨O,q2⟩
     all_goals
      go_wp2_with (at_builtin;(refine BS _ rfl (.tmp 63) (.tmp 69) 24 rfl r 142 ZO (.agg #[Y ⟨#[]⟩,Y ⟨#[]⟩]) 2 32 RC ZP E H F rfl (by decide) _ (bY L ⟨t,tx⟩ t k).length ((bY L ⟨t,tx⟩ t k).flatMap bK) (by simp[Act.eval]) (z.alloc _) (Q wr.heap.size 0 U) 1 1 (bK (dd L k)) (by simp[Act.eval]) rfl (du wr _ _ _) (by simp[bK,Value.oneCell']) (by unfold maxLen;omega) (by omega) (by have:=l.size;have:=f.out;simp;omega) ?_;intro vy wy g c o;have OY:=ae g;have BY:=ae (bg (l.alloc (by have:=l.size;have:=f.out;omega) (N #[Y (dd L k).e,Y (dd L k).B] 142)) c (by have:=l.size;have:=f.out;simp;omega) (λj e=>(z.lt j e).1));clear g c o));exact⟨⟨k+1,ZA,by omega,by go_num,rfl,HN,by show World.ownsRow _ _ _ _ _ _ _;rw[HI.out,cM,BO];simpa using OY.out,BY⟩,by simp[intOf];omega⟩
  ·have e:L.length=k:=by omega
   subst e;cases db with
   |true =>
    have ZN:re L ⟨t,tx⟩ t=bY L ⟨t,tx⟩ t L.length:=by unfold re;rw[p6 B.symm]
    obtain⟨va,vc,rfl⟩:=aU z;have OF:Hid (wr.ownsRow r 142 2 (Z va (bY L ⟨t,tx⟩ t L.length).length vc) LS.length (LS.flatMap bK)):=by show World.ownsRow _ _ _ _ _ _ _;rw[x.out,ZN];exact z
    have ZI:=f.out;have dg:=G.out;have H1:=ae ZI;have H2:=ae dg;have H3:=ae ZN;have e9:=(l.cell (p:=(Q X 1 U)) y).trans c9;have y8:=(l.frozen (p:=(Q X 0 U)) y).trans P.z0;obtain⟨r0,q0⟩:=(X4.aa l (by omega)).r0;obtain⟨r1,O⟩:=(X4.aa l (by omega)).r1;clear ZI dg ZN;go_wp2;have ZI:=f.out;have dg:=G.out;exact bp (v:=.tuple #[.agg #[Z va (bY L ⟨t,tx⟩ t L.length).length vc,Z ta R.length tc],J I 0]) (by simp[results,T9,go_sem,r0,r1]) rfl ⟨_,_,R,rfl,aB (aQ (aQ (aQ OF (R:=X) (j:=0) (by omega) _) (R:=w.heap.size+1) (j:=0) (by omega) _) (R:=w.heap.size+1) (j:=1) (by omega) _) (by omega),gK (((RX _ ((ld.trans (l.mono (by omega))).setCell (p:=(Q X 0 U)) ly _)).set (X:=w.heap.size+1) (j:=0) (by omega) _).set (X:=w.heap.size+1) (j:=1) (by omega) _) (by omega),HM,(((B4.trans (l.mono (by omega))).setCell (by simp;omega) _).setCell (by simp) _).setCell (by simp) _⟩
   |false =>
    go_wp2_with (at_builtin;(refine BS _ rfl (.tmp 73) (.tmp 77) 24 rfl r 142 ZO (.agg #[Y ⟨#[]⟩,Y ⟨#[]⟩]) 2 32 RC ZP E H F rfl (by decide) _ (bY L ⟨t,tx⟩ t L.length).length ((bY L ⟨t,tx⟩ t L.length).flatMap bK) (by simp[Act.eval]) (z.alloc _) (Q wr.heap.size 0 U) 1 1 (bK ⟨t,tx⟩) (by simp[Act.eval]) rfl (du wr _ _ _) (by simp[bK,Value.oneCell']) (by unfold maxLen;omega) (by omega) (by have:=l.size;have:=f.out;simp;omega) ?_;intro vz wz g c o;obtain⟨gs,cs,rfl⟩:=fu g (by omega);have OZ:=ae g;have ZM:=ae (bg (l.alloc (by have:=l.size;have:=f.out;omega) (N #[Y t,Y tx] 142)) c (by have:=l.size;have:=f.out;simp;omega) (λj e=>(z.lt j e).1));have f8:=(ZM.cell (p:=(Q X 0 U)) y).trans c8;have f9:=(ZM.cell (p:=(Q X 1 U)) y).trans c9;have y8:=(ZM.frozen (p:=(Q X 0 U)) y).trans P.z0;obtain⟨r0,q0⟩:=(X4.aa ZM (by have:=f.out;have:=G.out;omega)).r0;obtain⟨r1,O⟩:=(X4.aa ZM (by have:=f.out;have:=G.out;omega)).r1;clear g c o));have ZN:re L ⟨t,tx⟩ t=bY L ⟨t,tx⟩ t L.length++[⟨t,tx⟩]:=by unfold re;rw[gM (by rw[<-B.out];simp)]
    have OF:Hid (wz.ownsRow r 142 2 (Z (T (Q gs 0 U)) ((bY L ⟨t,tx⟩ t L.length).length+1) cs) LS.length (LS.flatMap bK)):=by show World.ownsRow _ _ _ _ _ _ _;rw[x.out,ZN,cM,BO];simpa using OZ.out
    have ZI:=f.out;have dg:=G.out;exact bp (v:=.tuple #[.agg #[Z (T (Q gs 0 U)) ((bY L ⟨t,tx⟩ t L.length).length+1) cs,Z ta R.length tc],J I 0]) (by simp[results,T9,go_sem,r0,r1]) rfl ⟨_,_,R,rfl,aB (aQ (aQ (aQ OF (R:=X) (j:=0) (by omega) _) (R:=w.heap.size+1) (j:=0) (by omega) _) (R:=w.heap.size+1) (j:=1) (by omega) _) (by omega),gK (((RX _ ((ld.trans (ZM.mono (by omega))).setCell (p:=(Q X 0 U)) ly _)).set (X:=w.heap.size+1) (j:=0) (by omega) _).set (X:=w.heap.size+1) (j:=1) (by omega) _) (by omega),HM,(((B4.trans (ZM.mono (by omega))).setCell (by simp;omega) _).setCell (by simp) _).setCell (by simp) _⟩
theorem uS (a0:Option Addr)(n0 c0:Nat)(f0:Nat->Source)(a1:Option Addr)(n1 c1:Nat)(f1:Nat->Target)(t:ByteArray)(w:M)(hn0:(n0:Int)<=1048576)(hn1:(n1:Int)<=1048576)(aq:SlSource w a0 n0 f0)(dg:SlTarget w a1 n1 f1)(ZJ:∀i,i<n1->cT (f1 i))(hs:∀i,i<n1->∀j,j<(f1 i).f->((f1 i).H j).s.size<=maxLen):Calls Tryz.prog 35 #[.agg #[Z a0 n0 c0,Z a1 n1 c1],Y t] w λe w'=>∃v0 v1 R,e=ZF (.tuple #[.agg #[v0,v1],J I (lY n0 f0 n1 f1 t)])/\w'.ownsRow w.heap.size 142 2 v0 (jx n0 f0 n1 f1 t).length ((jx n0 f0 n1 f1 t).flatMap bK)/\TRow w' w.heap.size v1 R/\R.map (·.1)=lZ n0 f0 n1 f1 t/\Below w.heap.size w w':=by
 have V0:=ae aq;have V1:=ae dg;have HF:=ae ZJ;have HS:=ae hs;clear aq dg ZJ hs;obtain⟨C,hC⟩:∃C,C=ce n0 f0 n1 f1:=⟨_,rfl⟩
 obtain⟨D,ZQ⟩:∃D,D=lY n0 f0 n1 f1 t:=⟨_,rfl⟩
 obtain⟨LS,H⟩:∃LS,LS=jx n0 f0 n1 f1 t:=⟨_,rfl⟩
 obtain⟨LT,L⟩:∃LT,LT=lZ n0 f0 n1 f1 t:=⟨_,rfl⟩
 rw[<-ZQ,<-H,<-L];have HC:=ae hC;have HD:=ae (ZQ.trans (by unfold lY;rw[<-hC]));have n:=ae (H.trans (by unfold jx;rw[<-ZQ]));have m:=ae (L.trans (by unfold lZ;rw[<-ZQ]));clear hC ZQ H L;obtain⟨W,ZO⟩:∃W:M,(w.alloc (N #[Z a0 n0 c0,Z a1 n1 c1] 27)).alloc (N #[Z U 0 0,Z U 0 0] 27)=W:=⟨_,rfl⟩
 obtain⟨V,-,-,-⟩:=nb2 ZO;have bt:=ae ZO;clear ZO;have ZK:=ae (uG w (Z a0 n0 c0) (Z a1 n1 c1) 27);go_enter Tryz.func35,Tryz.ntmps35;go_wp2_with fail;rw[bt.out] at ZK ⊢;clear bt;refine(fB a0 n0 c0 f0 a1 n1 c1 f1 _ hn0 hn1 (V0.aa V ly) (V1.aa V ly) HF HS).mono ?_;rintro e w1 ⟨rfl,b⟩;rw[<-HC.out];have ZL:=ae (ZK.aa b ZK.lt');have B1:=ae (V.trans (b.mono V.size));clear b V ZK;by_cases hc:C=0;case neg =>
  have g:=HD.out;rw[p6 hc] at g;have c:=n.out;rw[gM (by omega)] at c;have f:=m.out;rw[gM (by omega)] at f;subst g c f;have hc':(C == 0)=ZA:=by simpa using hc
  obtain⟨r0,q0⟩:=ZL.r0;obtain⟨r1,ZI⟩:=ZL.r1;go_wp2;exact bp (v:=.tuple #[.agg #[Z U 0 0,Z U 0 0],J I 1]) (by simp[results,VE,go_sem,r0,r1]) rfl ⟨_,_,[],rfl,A9 _ _ _ _,dh _ _,rfl,(B1.setCell (by simp) _).setCell (by simp) _⟩
 subst hc;have hz:=ma HC.symm;have HZ:=ae hz;clear hz HC;have ZN:=HD.out;rw[gM (by omega)] at ZN;have K:=ae ZN;clear ZN HD;go_wp2_with fail;refine(dc t _).mono ?_;rintro e w2 ⟨rfl,b⟩;have x:=ae (ZL.aa b ZL.lt');have O:=ae (B1.trans (b.mono B1.size));clear b ZL B1;cases hn:aw t with
 |false =>have g:=K.out;rw[p6 hn] at g;have c:=n.out;rw[gM (by omega)] at c;have f:=m.out;rw[gM (by omega)] at f;subst g c f;clear hn;obtain⟨r0,q0⟩:=x.r0;obtain⟨r1,ZI⟩:=x.r1;go_wp2;exact bp (v:=.tuple #[.agg #[Z U 0 0,Z U 0 0],J I 2]) (by simp[results,VE,go_sem,r0,r1]) rfl ⟨_,_,[],rfl,A9 _ _ _ _,dh _ _,rfl,(O.setCell (by simp) _).setCell (by simp) _⟩
 |true =>
  have ZM:=K.out;rw[gM (by simp[hn])] at ZM;have S:=ae ZM;clear ZM K hn;have F:=x.a0;have E:=x.a1;go_wp2_with fail;refine(uJ a0 n0 c0 a1 n1 c1 f0 t _ hn0 (V0.aa O ly)).mono ?_;rintro e wS ⟨r,rfl,B,b⟩;have G:=ae (x.aa b x.lt');have ZP:=ae (O.trans (b.mono O.size));clear b x O F E;have F:=G.a0;have E:=G.a1;by_cases hr:r<0
  ·have fd:Hid (cI (nm0 f0) n0 t=ZA):=by show _=ZA;rw[<-B];simpa using hr
   clear B;go_wp2_with fail;refine(mR a0 n0 c0 a1 n1 c1 f1 t _ hn1 (V1.aa ZP ly)).mono ?_;rintro e w3 ⟨q,rfl,A,b⟩;have h:=ae (G.aa b G.lt');have l:=ae (ZP.trans (b.mono ZP.size));clear b G ZP F E;have F:=h.a0;have E:=h.a1;by_cases hq:q<0
   ·have hi:(cI (nm0 f0) n0 t || cI (nm1 f1) n1 t)=ZA:=by rw[fd.out,<-A];simpa using hq
    clear A;have g:=S.out;rw[p6 hi] at g;have c:=n.out;rw[gM (by omega)] at c;have f:=m.out;rw[gM (by omega)] at f;subst g c f;obtain⟨r0,q0⟩:=h.r0;obtain⟨r1,ZI⟩:=h.r1;go_wp2;exact bp (v:=.tuple #[.agg #[Z U 0 0,Z U 0 0],J I 4]) (by simp[results,VE,go_sem,r0,r1]) rfl ⟨_,_,[],rfl,A9 _ _ _ _,dh _ _,rfl,(l.setCell (by simp) _).setCell (by simp) _⟩
   ·have hi:(cI (nm0 f0) n0 t || cI (nm1 f1) n1 t)=ZG:=by rw[fd.out,<-A];simpa using hq
    clear A;have g:=S.out;rw[gM (by simp[hi])] at g;have c:=n.out;rw[p6 g] at c;have f:=m.out;rw[p6 g] at f;subst g c f;go_wp2_with fail;refine(gu a0 n0 c0 f0 a1 n1 c1 f1 t _ hn0 hn1 (V0.aa l ly) (V1.aa l ly) HF).mono ?_;rintro e w4 ⟨v0,v1,R,rfl,y,hR,hM,b⟩;have P:=ae (h.aa b h.lt');have la:=h.lt;have B4:=ae (l.trans (b.mono l.size));obtain⟨z,o,rfl⟩:=aU y;obtain⟨u,p,rfl⟩:=aU hR.i;have O4:=ae (aB (aQ (aQ (R:=w.heap.size+1) (j:=0) y (by omega) (Z z (bX f0 t n0).length o)) (R:=w.heap.size+1) (j:=1) (by omega) (Z u R.length p)) (base':=w.heap.size) (by omega));have T4:=ae (gK ((hR.set (X:=w.heap.size+1) (j:=0) (by omega) (Z z (bX f0 t n0).length o)).set (X:=w.heap.size+1) (j:=1) (by omega) (Z u R.length p)) (base':=w.heap.size) (by omega));have HM:=ae hM;clear y hR b hM F E;obtain⟨r0,q0⟩:=P.r0;obtain⟨r1,ZI⟩:=P.r1;go_wp2;exact bp (v:=.tuple #[.agg #[Z z (bX f0 t n0).length o,Z u R.length p],J I 0]) (by simp[results,VE,go_sem,r0,r1]) rfl ⟨_,_,R,rfl,O4,T4,HM,(B4.setCell (by simp) _).setCell (by simp) _⟩
  ·have hi:(cI (nm0 f0) n0 t || cI (nm1 f1) n1 t)=ZG:=by rw[<-B];have:decide (0<=r)=ZG:=decide_eq_true (by omega);rw[this];rfl
   clear B;have h:=G;have l:=ZP;have g:=S.out;rw[gM (by simp[hi])] at g;have c:=n.out;rw[p6 g] at c;have f:=m.out;rw[p6 g] at f;subst g c f;go_wp2_with fail;refine(gu a0 n0 c0 f0 a1 n1 c1 f1 t _ hn0 hn1 (V0.aa l ly) (V1.aa l ly) HF).mono ?_;rintro e w4 ⟨v0,v1,R,rfl,y,hR,hM,b⟩;have P:=ae (h.aa b h.lt');have la:=h.lt;have B4:=ae (l.trans (b.mono l.size));obtain⟨z,o,rfl⟩:=aU y;obtain⟨u,p,rfl⟩:=aU hR.i;have O4:=ae (aB (aQ (aQ (R:=w.heap.size+1) (j:=0) y (by omega) (Z z (bX f0 t n0).length o)) (R:=w.heap.size+1) (j:=1) (by omega) (Z u R.length p)) (base':=w.heap.size) (by omega));have T4:=ae (gK ((hR.set (X:=w.heap.size+1) (j:=0) (by omega) (Z z (bX f0 t n0).length o)).set (X:=w.heap.size+1) (j:=1) (by omega) (Z u R.length p)) (base':=w.heap.size) (by omega));have HM:=ae hM;clear y hR b hM F E;obtain⟨r0,q0⟩:=P.r0;obtain⟨r1,ZI⟩:=P.r1;go_wp2;exact bp (v:=.tuple #[.agg #[Z z (bX f0 t n0).length o,Z u R.length p],J I 0]) (by simp[results,VE,go_sem,r0,r1]) rfl ⟨_,_,R,rfl,O4,T4,HM,(B4.setCell (by simp) _).setCell (by simp) _⟩
