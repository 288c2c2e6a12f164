import Derived.Test.YtpmnbjkjpnclaaaGreatDoorQB
import Derived.Deep.RegionHeld
set_option maxRecDepth 100000
set_option maxHeartbeats 8000000
set_option linter.unusedSimpArgs false
open Go renaming Addr.mk->Q,Value.slice->Z,Value.string->U,Value.int->N,Value.agg->ZH,Obj.cells->J,IntKind.i64->I,World->M,Value->ZC,Ending.returned->ZF
open Option renaming none->Y,some->T
open Bool renaming false->ZA,true->ZG
namespace Go.Proofs.YtpmnbjkjpnclaaaGreatDoor.Vp
section
variable {P:Program}{ops:Array Oper}{ZN:Exit->Act->M->Prop}{md:Region.Mode}{S:M->Prop}
theorem Cd {i:Nat}{b:Oper}{v:ZC}{k:Nat}{l:Array Bool}{a:Act}{w:M}(hi:ops.toList[i]?=T b)(p:Region.noSelect ops=ZG)(j:Region.free md ops l i=ZG)(m:(Region.ready md ops l).contains i=ZG)
  (g:∀c a w,ZN (.panic c) (a.put b.dst v) w->ZN (.panic c) a w) (n:Region.wanted b (yielded ops a.tmps)=ZG) (o:∀w,S w->(execOp a.eval b).run P w=.ok (.value v) w) (f:S w)
  (h:wpAnyH P md ops ZN S k (l.setIfInBounds i ZG) (a.put b.dst v) w):wpAnyH P md ops ZN S (k+1) l a w:=by
 rw[L8] at hi;exact wpAnyH_take hi p j m g (.inl ⟨n,λw f=>o w f⟩) f h
def nxS:List Bool->Nat->Option Nat
 |[],_=>Y
 |true::l,j=>nxS l (j+1)
 |false::_,j=>T j
theorem bI (j:Nat){i:Nat}{b:Oper}{v:ZC}{k:Nat}{l:Array Bool}{a:Act}{w:M}(_:nxS (l.toList.drop j) j=T i)(hi:ops.toList[i]?=T b)(f:(Region.noSelect ops && Region.free md ops l i && (Region.ready md ops l).contains i)=ZG)
  (g:∀c a w,ZN (.panic c) (a.put b.dst v) w->ZN (.panic c) a w) (m:Region.wanted b (yielded ops a.tmps)=ZG) (n:∀w,S w->(execOp a.eval b).run P w=.ok (.value v) w) (o:S w)
  (h:wpAnyH P md ops ZN S k (l.setIfInBounds i ZG) (a.put b.dst v) w):wpAnyH P md ops ZN S (k+1) l a w:=by
 simp only[zA] at f;exact Cd hi f.1.1 f.1.2 f.2 g m n o h
theorem aS {i:Nat}{o:Oper}{k:Nat}{l:Array Bool}{a:Act}{w:M}(c:ops.toList[i]?=T o)(g:Region.ready md ops l=[i])
  (h:∀b:Act->M->Prop,Shut (∀a w,S w->wpAnyH P md ops ZN S k (l.setIfInBounds i ZG) a w->b a w)->if Region.wanted o (yielded ops a.tmps)=ZG then Oper.wp P o a w b ZN else b (a.put o.dst undef) w) :
  wpAnyH P md ops ZN S (k+1) l a w:=by
 rw[L8] at c;exact wpAnyH_ready g (UK _ _) (AllReadyH.cons c (λb j=>h b (λa w f m=>j a w f (λ_=>m))) AllReadyH.nil)
theorem rp (j:Nat){i:Nat}{o:Oper}{k:Nat}{l:Array Bool}{a:Act}{w:M}(_:nxS (l.toList.drop j) j=T i)(c:ops.toList[i]?=T o)(f:Region.ready md ops l=[i])
  (h:∀b:Act->M->Prop,Shut (∀a w,S w->wpAnyH P md ops ZN S k (l.setIfInBounds i ZG) a w->b a w)->if Region.wanted o (yielded ops a.tmps)=ZG then Oper.wp P o a w b ZN else b (a.put o.dst undef) w) :
  wpAnyH P md ops ZN S (k+1) l a w:=aS c f h
end
end Go.Proofs.YtpmnbjkjpnclaaaGreatDoor.Vp
namespace Go.Proofs.YtpmnbjkjpnclaaaGreatDoor.Ca
section
variable {P:Program}{ops:Array Oper}{ZN:Exit->Act->M->Prop}{md:Region.Mode}{S:M->Prop}{n:Nat}
def dW (P:Program)(md:Region.Mode)(ops:Array Oper)(ZN:Exit->Act->M->Prop)(S:M->Prop)(n:Nat):Nat->Array Bool->Act->M->Prop
 |0,l,a,w=>Region.ready md ops l=[]/\ZN .normal a w
 |k+1,l,a,w=>(Region.ready md ops l=[]->ZN .normal a w)/\∀i∈Region.ready md ops l,wpOp P ops ZN i (λc b=>(i≠n->S b)/\dW P md ops ZN S n k (l.setIfInBounds i ZG) c b) a w
theorem uW:∀(k:Nat) (l:Array Bool) (a:Act) (w:M),dW P md ops ZN S n k l a w->wpAny P md ops ZN k l a w
 |0,_,_,_,h=>h
 |k+1,_,_,_,h=>⟨h.1,λi hi=>wpOp_mono (λb c x=>uW k _ b c x.2) (h.2 i hi)⟩
def waitsFor (md:Region.Mode)(ops:Array Oper)(n i:Nat):Bool:=match ops[n]? with
 |some o=>o.after.any λe=>Region.binds md e && e.on == i
 |none=>ZA
theorem Ce {i:Nat}{o:Oper}(h:waitsFor md ops n i=ZG)(c:ops[n]?=T o)(hn:∀e∈o.after,Region.binds md e=ZG->e.on≠i):False:=by unfold waitsFor at h;simp only[c] at h;obtain⟨e,b,h2⟩:=Array.any_eq_true'.1 h;simp only[Bool.and_eq_true,beq_iff_eq] at h2;exact hn e b h2.1 h2.2
theorem zO {i:Nat}{p:Oper}{v:ZC}(hi:ops[i]?=T p)(t:∀(j:Nat) (o:Oper) q b,ops[j]?=T o->o.op≠.select q b)(ZM:∀c a w,ZN (.panic c) (a.put p.dst v) w->ZN (.panic c) a w)(ZR:waitsFor md ops n i=ZG):∀(k:Nat) (l:Array Bool) (a:Act) (w:M),(∀j g,ops[j]?=T g->j≠i->l.getD j ZG=ZA->(∀e∈g.after,Region.binds md e=ZG->e.on≠i)->p.apart ops g=ZG) ->
   i∈Region.ready md ops l->YieldsIf P ops S p v a->S w->dW P md ops ZN S n k (l.setIfInBounds i ZG) (a.put p.dst v) w->dW P md ops ZN S n (k+1) l a w:=by
 intro k;induction k with
 |zero =>
  intro l a w _ r y s H;refine⟨λe=>absurd r (by rw[e];exact List.not_mem_nil),λj u=>?_⟩;rcases Decidable.em (j=i) with rfl|f;{exact y.wpOp hi s ⟨λ_=>s,H⟩};{exact absurd (ready_mono u f) (by rw[H.1];exact List.not_mem_nil)}
 |succ k R =>
  intro l a w ZQ r y s H;refine⟨λe=>absurd r (by rw[e];exact List.not_mem_nil),λj u=>?_⟩;rcases Decidable.em (j=i) with rfl|f;{exact y.wpOp hi s ⟨λ_=>s,H⟩};{obtain⟨F,g,h,C⟩:=mem_ready.1 u;have A:∀e∈g.after,Region.binds md e=ZG->e.on≠i:=λe O hb x=>(by have h1:=C e O hb;have D:=(mem_ready.1 r).1;rw[x] at h1;rcases Nat.lt_or_ge i l.size with B|B;{simp[B] at D h1;rw[D] at h1;cases h1};{simp[Array.getElem?_eq_none B] at h1});have z:j≠n:=λe=>Ce ZR (e ▸ h) A;refine wpOp_mono (λV ZO x=>⟨λ_=>x.2.1 z,R _ V ZO (λm L ZL E ZP K=>ZQ m L ZL E ?_ K) (ready_mono r (Ne.symm f)) x.1 (x.2.1 z) ?_⟩) (wpOp_putIf h (ZQ j g h f F A) (λq b=>t i p q b hi) (λq b=>t j g q b h) ZM y (H.2 j (ready_mono u f)));{rcases Decidable.em (j=m) with rfl|G;{exact F};{rwa[getD_set_ne ZG G] at ZP}};{rw[Array.setIfInBounds_comm _ _ f];exact x.2.2}}
theorem kG {i:Nat}{b:Oper}{v:ZC}{k:Nat}{l:Array Bool}{a:Act}{w:M}(hi:ops.toList[i]?=T b)(q:Region.noSelect ops=ZG)(j:Region.free md ops l i=ZG)(m:(Region.ready md ops l).contains i=ZG)(f:waitsFor md ops n i=ZG)
  (g:∀c a w,ZN (.panic c) (a.put b.dst v) w->ZN (.panic c) a w) (o:b.guard=Y) (p:∀w,S w->(execOp a.eval b).run P w=.ok (.value v) w) (r:S w)
  (h:dW P md ops ZN S n k (l.setIfInBounds i ZG) (a.put b.dst v) w):dW P md ops ZN S n (k+1) l a w:=by
 rw[Array.getElem?_toList] at hi;exact zO hi (Region.noSelect_spec q) g f k l a w (Region.free_spec hi j) (by simpa using m) (.inl ⟨by simp[Region.wanted,o],p⟩) r h
def nxA:List Bool->Nat->Option Nat
 |[],_=>Y
 |true::l,j=>nxA l (j+1)
 |false::_,j=>T j
theorem aJ (j:Nat){i:Nat}{f:Oper}{v:ZC}{k:Nat}{l:Array Bool}{a:Act}{w:M}(_:nxA (l.toList.drop j) j=T i)(hi:ops.toList[i]?=T f)(b:(Region.noSelect ops && Region.free md ops l i && (Region.ready md ops l).contains i && waitsFor md ops n i)=ZG)
  (g:∀c a w,ZN (.panic c) (a.put f.dst v) w->ZN (.panic c) a w) (m:f.guard=Y) (o:∀w,S w->(execOp a.eval f).run P w=.ok (.value v) w) (p:S w)
  (h:dW P md ops ZN S n k (l.setIfInBounds i ZG) (a.put f.dst v) w):dW P md ops ZN S n (k+1) l a w:=by
 simp only[Bool.and_eq_true] at b;exact kG hi b.1.1.1 b.1.1.2 b.1.2 b.2 g m o p h
theorem ah {i:Nat}{o:Oper}{k:Nat}{l:Array Bool}{a:Act}{w:M}(g:ops.toList[i]?=T o)(c:Region.ready md ops l=[i])
  (h:∀b:Act->M->Prop,Shut (∀a w,(i≠n->S w)->dW P md ops ZN S n k (l.setIfInBounds i ZG) a w->b a w)->if Region.wanted o (yielded ops a.tmps)=ZG then Oper.wp P o a w b ZN else b (a.put o.dst undef) w) :
  dW P md ops ZN S n (k+1) l a w:=by
 rw[Array.getElem?_toList] at g;refine⟨λe=>absurd e (by rw[c];exact List.cons_ne_nil _ _),λj f=>?_⟩;rw[c] at f;obtain rfl:=List.mem_singleton.1 f;exact wpOp_step g λb p=>h b λa w m q=>p a w ⟨m,q⟩
theorem cD (j:Nat){i:Nat}{o:Oper}{k:Nat}{l:Array Bool}{a:Act}{w:M}(_:nxA (l.toList.drop j) j=T i)(c:ops.toList[i]?=T o)(f:Region.ready md ops l=[i])
  (h:∀b:Act->M->Prop,Shut (∀a w,(i≠n->S w)->dW P md ops ZN S n k (l.setIfInBounds i ZG) a w->b a w)->if Region.wanted o (yielded ops a.tmps)=ZG then Oper.wp P o a w b ZN else b (a.put o.dst undef) w) :
  dW P md ops ZN S n (k+1) l a w:=ah c f h
theorem aX {l:Array Bool}{a:Act}{w:M}(b:Region.ready md ops l=[])(h:ZN .normal a w)(k:Nat):dW P md ops ZN S n k l a w:=by
 cases k with
 |zero=>exact⟨b,h⟩
 |succ k=>exact⟨λ_=>h,by rw[b];intro i hi;cases hi⟩
theorem aD {id:Nat}{a:Act}{w:M}(S:M->Prop)(n:Nat)(b:P.follows .mixedOrders=ZG)(h:dW P .any ops ZN S n ops.size (Array.replicate ops.size ZA) a w.drew):(Code.region id ops ZG).wp P ZN a w :=
 wp_region_any b (uW _ _ _ _ h)
end
section
variable {P:Program}{ops:Array Oper}{ZN:Exit->Act->M->Prop}{md:Region.Mode}{S:M->Prop}{n:Nat}
theorem uX {i j:Nat}{g f:Oper}{k:Nat}{l:Array Bool}{a:Act}{w:M}(hi:ops.toList[i]?=T g)(q:ops.toList[j]?=T f)(r:Region.ready md ops l=[i,j])
  (h1:∀b:Act->M->Prop,Shut (∀a w,(i≠n->S w)->dW P md ops ZN S n k (l.setIfInBounds i ZG) a w->b a w)->if Region.wanted g (yielded ops a.tmps)=ZG then Oper.wp P g a w b ZN else b (a.put g.dst undef) w)
  (h2:∀b:Act->M->Prop,Shut (∀a w,(j≠n->S w)->dW P md ops ZN S n k (l.setIfInBounds j ZG) a w->b a w)->if Region.wanted f (yielded ops a.tmps)=ZG then Oper.wp P f a w b ZN else b (a.put f.dst undef) w) :
  dW P md ops ZN S n (k+1) l a w:=by
 rw[Array.getElem?_toList] at hi q;refine⟨λe=>absurd e (by rw[r];exact List.cons_ne_nil _ _),λm c=>?_⟩;rw[r] at c;rcases List.mem_cons.1 c with rfl|c;{exact wpOp_step hi λb h=>h1 b λa w o p=>h a w ⟨o,p⟩};{obtain rfl:=List.mem_singleton.1 c;exact wpOp_step q λb h=>h2 b λa w o p=>h a w ⟨o,p⟩}
end
end Go.Proofs.YtpmnbjkjpnclaaaGreatDoor.Ca
namespace Go.Proofs.YtpmnbjkjpnclaaaGreatDoor.Vp
section
variable {P:Program}{ops:Array Oper}{ZN:Exit->Act->M->Prop}{md:Region.Mode}{S:M->Prop}
theorem pm {i j:Nat}{f c:Oper}{k:Nat}{l:Array Bool}{a:Act}{w:M}(hi:ops.toList[i]?=T f)(n:ops.toList[j]?=T c)(o:Region.ready md ops l=[i,j])
  (h1:∀b:Act->M->Prop,Shut (∀a w,S w->wpAnyH P md ops ZN S k (l.setIfInBounds i ZG) a w->b a w)->if Region.wanted f (yielded ops a.tmps)=ZG then Oper.wp P f a w b ZN else b (a.put f.dst undef) w)
  (h2:∀b:Act->M->Prop,Shut (∀a w,S w->wpAnyH P md ops ZN S k (l.setIfInBounds j ZG) a w->b a w)->if Region.wanted c (yielded ops a.tmps)=ZG then Oper.wp P c a w b ZN else b (a.put c.dst undef) w) :
  wpAnyH P md ops ZN S (k+1) l a w:=by
 rw[L8] at hi n;exact wpAnyH_ready o (UK _ _) (AllReadyH.cons hi (λb g=>h1 b (λa w h m=>g a w h (λ_=>m))) (AllReadyH.cons n (λb g=>h2 b (λa w h m=>g a w h (λ_=>m))) AllReadyH.nil))
end
open RowKit Ca
theorem gw (a0:Option Addr)(n0 c0:Nat)(f0:Nat->Source)(a1:Option Addr)(n1 c1:Nat)(f1:Nat->Target)(t:ByteArray)(w:M)(hn0:(n0:Int)<=1048576)(hn1:(n1:Int)<=1048576)(ZR:SlSource w a0 n0 f0)(L:SlTarget w a1 n1 f1)(F:∀i,i<n1->cT (f1 i)):Calls Tryz.prog 91 #[ZH #[Z a0 n0 c0,Z a1 n1 c1],U t] w λe ZJ=>∃s r R,e=ZF (ZH #[s,r])/\ZJ.ownsRow (w.heap.size+3) 142 2 s (bY f0 t n0).length ((bY f0 t n0).flatMap bK)/\TRow ZJ (w.heap.size+3) r R/\R.map (·.1)=keepT f1 t n1/\Below w.heap.size w ZJ:=by
 have V0:=ae ZR;have V1:=ae L;have HF:=ae F;clear ZR L F;obtain⟨sm,hi,dg,mv,la⟩:=OB lJ;obtain⟨ur,hj,ro,ZN,bt⟩:=OB gT;have A0:=ae ((((q9 w).alloc ly (J #[Z a0 n0 c0,Z a1 n1 c1] 27)).alloc (by simp) (J #[Z Y 0 0,Z Y 0 0] 27)).alloc (by simp;omega) (J #[Z Y 0 0,Z Y 0 0] 27));have X0:=ae (Cc w (Z a0 n0 c0) (Z a1 n1 c1) 27);go_enter Tryz.func91,Tryz.ntmps91;go_wp2;generalize ((w.alloc (J #[Z a0 n0 c0,Z a1 n1 c1] 27)).alloc (J #[Z Y 0 0,Z Y 0 0] 27)).alloc (J #[Z Y 0 0,Z Y 0 0] 27)=W at A0 X0 ⊢;go_loopw [6] (λi wr=>∃(k:Nat) (s:ZC),k<=n0/\i=N I k/\Hid (Boxes wr w.heap.size (Z a0 n0 c0) (Z a1 n1 c1) s (Z Y 0 0))/\Hid (wr.ownsRow (w.heap.size+3) 142 2 s (bY f0 t k).length ((bY f0 t k).flatMap bK))/\Hid (Below w.heap.size w wr)) (λi _=>n0 - (intOf i).toNat);case atStart=>exact⟨0,_,by omega,rfl,X0,A9 _ _ _ _,A0⟩
 case round =>
  obtain⟨k,s,hk,rfl,f,D,q⟩:=hrel;have aq:=f.lt;by_cases y:k<n0
  ·obtain⟨b,off,rfl,z⟩:=V0.resolve_left (by omega);obtain⟨ZL,S⟩:=(z.2 k y).aa q z.1;clear z;have hll:=ku f0 t k;have k0:=f.a0;cases hq:((f0 k).e.toList == t.toList) with
   |true =>have A:=ae hq;go_wp2;exact⟨⟨k+1,s,by omega,by go_num,f,by show World.ownsRow _ _ _ _ _ _ _;rw[zH A.out];exact D,q⟩,by simp[intOf];omega⟩
   |false =>
    have A:=ae hq;obtain⟨x0,y0⟩:=f.o0;have u:=ae ((dB (w.heap.size+3) wr).drew.alloc (by simp;omega) (J #[U (f0 k).e,U (f0 k).B] 142));go_wp2_with fail
    go_region_law (first
     |(refine eN rfl (.tmp 25) (.tmp 31) 24 rfl (w.heap.size+3) 142 sm (ZH #[U ⟨#[]⟩,U ⟨#[]⟩]) 2 32 RQ hi dg mv la rfl (by decide) s (bY f0 t k).length ((bY f0 t k).flatMap bK) (by simp[Act.eval]) (D.drew.alloc _) (Q wr.heap.size 0 Y) 1 1 (bK (f0 k)) (by simp[Act.eval]) rfl (dv wr.drew _ _ _) (by simp[bK,Value.oneCell']) (by unfold maxLen;omega) (by omega) (by simp<;>omega) ?_;intro v' w2 n l B;obtain⟨gs,cs,rfl⟩:=fv n (by omega);have O2:=ae n;have ZO:=ae (bg u l (by simp<;>omega) (λj e=>(D.lt j e).1));obtain⟨x2,y2⟩:=(f.aa ZO ly).o0;clear n l B))
    all_goals
     clear x0 y0 k0;go_wp2;exact⟨⟨k+1,_,by omega,by go_num,(f.aa ZO ly).set0 _,by show World.ownsRow _ _ _ _ _ _ _;rw[zI A.out,cM,BO];simpa using aQ O2.out (by omega) _,(q.trans (ZO.mono (by omega))).setCell (by simp;omega) _⟩,by simp[intOf];omega⟩
  ·have e:n0=k:=by omega
   subst e;have k0:=f.a0;have H:=f.a1;go_wp2;clear k0 H y hk;generalize wr=W1 at f D q aq ⊢;go_loopw [7] (λi wr=>∃(k:Nat) (r:ZC) (R:List TR),k<=n1/\i=N I k/\Hid (Boxes wr w.heap.size (Z a0 n0 c0) (Z a1 n1 c1) s r)/\Hid (wr.ownsRow (w.heap.size+3) 142 2 s (bY f0 t n0).length ((bY f0 t n0).flatMap bK))/\Hid (TRow wr (w.heap.size+3) r R)/\Hid (R.map (·.1)=keepT f1 t k)/\Hid (Below w.heap.size w wr)) (λi _=>n1 - (intOf i).toNat);case atStart=>exact⟨0,_,[],by omega,rfl,f,D,dh _ _,rfl,q⟩
   case round =>
    clear f D q;obtain⟨k,r,R,hk,rfl,f,G,C,ZP,q⟩:=hrel;have hlt4:=f.lt;by_cases y:k<n1
    ·obtain⟨b,off,rfl,z⟩:=V1.resolve_left (by omega);obtain⟨ZL,ka,ZK,S,hx⟩:=(z.2 k y).aa q ly z.1;have HX:=ae hx;have n9:=z.1;clear z hx;have hRl:R.length<=1048576:=by have h1:=wA List.length ZP.out;have h2:=kv f1 t k;simp at h1;omega
     have th:((f1 k).f:Int)<=1048576:=by have:=HF.out k y;unfold cT at this;omega
     have H:=f.a1;have At:¬ b=w.heap.size+1+1:=by omega
     have X:¬ w.heap.size+1+1=b:=by omega
     have hbw:b<wr.heap.size:=lj n9 q.size;cases hq:((f1 k).e.toList == t.toList) with
     |true =>have A:=ae hq;go_wp2;exact⟨⟨k+1,r,R,by omega,by go_num,f,G,C,by show _=keepT f1 t (k+1);rw[zJ A.out];exact ZP,q⟩,by simp[intOf];omega⟩
     |false =>
      have A:=ae hq;have ST:Hid (∀V,Below (w.heap.size+3) wr V->(V.cell? (Q (w.heap.size+1+1) 1 Y)=T r/\w.heap.size+1+1<V.heap.size)/\(V.cell? (Q w.heap.size 1 Y)=T (Z (T (Q b off Y)) n1 c1)/\w.heap.size<V.heap.size)/\V.cell? (Q b (off+k*2) Y)=T (U (f1 k).e)/\V.cell? (Q b (off+k*2+1) Y)=T (Z ka (f1 k).f ZK)/\b<V.heap.size):=λV ZQ=>by have hz:=ZQ.size;have h:=f.aa ZQ ly;exact⟨⟨h.o1.1,by have:=h.lt;omega⟩,⟨h.a1,by have:=h.lt;omega⟩,(ZQ.cell (p:=(Q b (off+k*2) Y)) (by show b<w.heap.size+3;omega)).trans ZL,(ZQ.cell (p:=(Q b (off+k*2+1) Y)) (by show b<w.heap.size+3;omega)).trans S,by omega⟩
      have u:=ae (q9 wr).drew;have hki:(k:Int)<(n1:Int):=by omega
      go_wp2_with fail;refine aD (λV=>(V.cell? (Q (w.heap.size+1+1) 1 Y)=T r/\w.heap.size+1+1<V.heap.size)/\(V.cell? (Q w.heap.size 1 Y)=T (Z (T (Q b off Y)) n1 c1)/\w.heap.size<V.heap.size)/\V.cell? (Q b (off+k*2) Y)=T (U (f1 k).e)/\V.cell? (Q b (off+k*2+1) Y)=T (Z ka (f1 k).f ZK)/\b<V.heap.size) 19 (by kernel_rfl) ?_;have o:=ae (ST _ (u.mono (by omega)));clear H ZL S At X;generalize wr.drew=v2 at u o ⊢;iterate 14
       refine aJ 0 (v:=?_) rfl rfl (by kernel_rfl) (λ_ _ _ h=>h) rfl ?_ o ?_;rotate_left
       ·(intro wz qr;obtain⟨⟨s0,s1⟩,⟨s2,s3⟩,s4,s5,s6⟩:=qr;go_simp)
        (try with_reducible rfl)
       (try simp only[Act.put,nzL])
      refine ah (i:=14) rfl (by kernel_rfl) λK m=>?_;go_simp;go_at_call 93;refine(jn ka (f1 k).f ZK (f1 k).H _ th (HX.aa u ly)).mono ?_;rintro e wC ⟨g,c,rfl,P,hB⟩;have DC:=ae (u.trans (hB.mono u.size));have fd:=DC.size;have ld:=(dN P).1;have hz1:=u.size;have OC:=ae (aB P (base':=w.heap.size+3) (by omega));have O:wr.heap.size<=g:=by omega
      clear hB P ld o;have o:=ae (ST _ (DC.mono (by omega)));refine m _ _ (λ_=>o) ?_;clear m K
      (try simp only[Act.put,nzL])
      refine ah (i:=15) rfl (by kernel_rfl) λK m=>?_;go_simp;refine m _ _ (λ_=>o) ?_;clear m K o
      (try simp only[Act.put,nzL])
      have DA:=ae (DC.alloc fd (J #[U (f1 k).e,Z (T (Q g 0 Y)) (f1 k).f c] 146));have o:=ae (ST _ (DA.mono (by omega)));refine ah (i:=16) rfl (by kernel_rfl) λK m=>?_;go_simp;refine m _ _ (λ_=>o) ?_;clear m K o
      (try simp only[Act.put,nzL])
      refine ah (i:=17) rfl (by kernel_rfl) λK m=>?_;refine eN rfl (.tmp 50) (.tmp 65) 25 rfl (w.heap.size+3) 146 ur (ZH #[U ⟨#[]⟩,Z Y 0 0]) 2 40 QP hj ro ZN bt rfl (by decide) r R.length (R.flatMap bj) (by simp[Act.eval]) ((C.aa DC ly).i.alloc _) (Q wC.heap.size 0 Y) 1 1 (bj (f1 k,g,c)) (by simp[Act.eval]) rfl (dv wC _ _ _) (by simp[bj,Value.oneCell']) (by unfold maxLen;omega) (by omega) (by simp;omega) ?_;intro v' w2 n l B;obtain⟨gs,cs,rfl⟩:=fv n (by omega);have T2:=ae (C.more (x:=f1 k) (g:=g) (c:=c) DA O (by omega) (OC.alloc _) n l);have ZM:=ae (bg (DA.mono (show w.heap.size+3<=wr.heap.size by omega)) l (by simp;omega) (λj e=>(C.i.lt j e).1));have ph:=ae ((own_below G DA ly).kept l (Cb (own_below G DA ly) ((C.aa DC ly).i.alloc _) (by decide)));have E:=ae (f.aa ZM ly);obtain⟨x2,y2⟩:=E.o1;have hz2:=E.lt;have o:=ae (ST _ ZM);clear n l B;refine m _ _ (λ_=>o) ?_;clear m K
      (try simp only[Act.put,nzL])
      refine ah (i:=18) rfl (by kernel_rfl) λK m=>?_;go_simp;refine m _ _ (λ_=>o) ?_;clear m K
      (try simp only[Act.put,nzL])
      have hz3:w.heap.size+1+1<w2.heap.size:=by omega
      refine ah (i:=19) rfl (by kernel_rfl) λK m=>?_;go_simp;refine m _ _ (λh=>absurd rfl h) ?_;clear m K o
      (try simp only[Act.put,nzL])
      refine aX (by kernel_rfl) ?_ _;clear x2 y2;go_wp2;exact⟨⟨k+1,_,R++[(f1 k,g,c)],by omega,by go_num,E.set1 _,aQ ph (by omega) _,T2.set (by omega) _,by show _=keepT f1 t (k+1);rw[zK A.out,DN,ZP.out];rfl,(q.trans (ZM.mono (by omega))).setCell (by simp;omega) _⟩,by simp[intOf];omega⟩
    ·have e:n1=k:=by omega
     subst e;have H:=f.a1;obtain⟨sa,sc,rfl⟩:=aU G;obtain⟨ta,tc,rfl⟩:=aU C.i;obtain⟨r0,q0⟩:=f.r0;obtain⟨r1,q1⟩:=f.r1;obtain⟨m0,_⟩:=f.o0;obtain⟨m1,_⟩:=f.o1;go_wp2;exact bp (v:=ZH #[Z sa _ sc,Z ta _ tc]) (by simp[results,Tryz.results91,go_sem,r0,r1]) rfl ⟨_,_,R,rfl,aQ (aQ G (by omega) _) (by omega) _,(C.set (by omega) _).set (by omega) _,ZP,(q.setCell (by simp) _).setCell (by simp) _⟩
theorem uY (a0:Option Addr)(n0 c0:Nat)(f0:Nat->Source)(a1:Option Addr)(n1 c1:Nat)(f1:Nat->Target)(t tx:ByteArray)(w:M)(hn0:(n0:Int)<=1048576)(hn1:(n1:Int)<=1048576)(Bk:SlSource w a0 n0 f0)(At:SlTarget w a1 n1 f1)(la:∀i,i<n1->cT (f1 i))(hs:∀i,i<n1->∀j,j<(f1 i).f->((f1 i).H j).s.size<=maxLen):Calls Tryz.prog 33 #[ZH #[Z a0 n0 c0,Z a1 n1 c1],U t,U tx] w λe P=>∃v0 v1 R,e=ZF (.tuple #[ZH #[v0,v1],N I (pi n0 f0 n1 f1 t tx)])/\P.ownsRow w.heap.size 142 2 v0 (mf n0 f0 n1 f1 t tx).length ((mf n0 f0 n1 f1 t tx).flatMap bK)/\TRow P w.heap.size v1 R/\R.map (·.1)=pj n0 f0 n1 f1 t tx/\Below w.heap.size w P:=by
 have V0:=ae Bk;have V1:=ae At;have HF:=ae la;have HS:=ae hs;clear Bk At la hs;obtain⟨H,E,ZQ,ZP,ZR⟩:=OB lJ;obtain⟨C,hC⟩:∃C,C=ce n0 f0 n1 f1:=⟨_,rfl⟩
 obtain⟨D,hD⟩:∃D,D=pi n0 f0 n1 f1 t tx:=⟨_,rfl⟩
 obtain⟨LS,sm⟩:∃LS,LS=mf n0 f0 n1 f1 t tx:=⟨_,rfl⟩
 obtain⟨LT,ur⟩:∃LT,LT=pj n0 f0 n1 f1 t tx:=⟨_,rfl⟩
 rw[<-hD,<-sm,<-ur];have HC:=ae hC;have HD:=ae (hD.trans (by unfold pi;rw[<-hC]));have u:=ae (sm.trans (by unfold mf;rw[<-hD]));have ZK:=ae (ur.trans (by unfold pj;rw[<-hD]));clear hC hD sm ur;obtain⟨W,mv⟩:∃W:M,(w.alloc (J #[Z a0 n0 c0,Z a1 n1 c1] 27)).alloc (J #[Z Y 0 0,Z Y 0 0] 27)=W:=⟨_,rfl⟩
 obtain⟨A0,-,-,-⟩:=nb2 mv;have DQ:=ae mv;clear mv;have X0:=ae (uJ w (Z a0 n0 c0) (Z a1 n1 c1) 27);go_enter Tryz.func33,Tryz.ntmps33;go_wp2_with fail;rw[DQ.out] at X0 ⊢;clear DQ;refine(fC a0 n0 c0 f0 a1 n1 c1 f1 _ hn0 hn1 (V0.aa A0 ly) (V1.aa A0 ly) HF HS).mono ?_;rintro e w1 ⟨rfl,y⟩;rw[<-HC.out];have X1:=ae (X0.aa y X0.lt');have B1:=ae (A0.trans (y.mono A0.size));clear y A0 X0;by_cases hc:C=0;case neg =>
  have hd:=HD.out;rw[p6 hc] at hd;have q:=u.out;rw[gM (by omega)] at q;have n:=ZK.out;rw[gM (by omega)] at n;subst hd q n;have hc':(C == 0)=ZA:=by simpa using hc
  obtain⟨r0,q0⟩:=X1.r0;obtain⟨r1,ZN⟩:=X1.r1;go_wp2;exact bp (v:=.tuple #[ZH #[Z Y 0 0,Z Y 0 0],N I 1]) (by simp[results,UF,go_sem,r0,r1]) rfl ⟨_,_,[],rfl,A9 _ _ _ _,dh _ _,rfl,(B1.setCell (by simp) _).setCell (by simp) _⟩
 subst hc;have hz:=me HC.symm;have HZ:=ae hz;clear hz HC;have n9:=HD.out;rw[gM (by omega)] at n9;have th:=ae n9;clear n9 HD;go_wp2_with fail;refine(dc t _).mono ?_;rintro e w2 ⟨rfl,y⟩;have F:=ae (X1.aa y X1.lt');have ZM:=ae (B1.trans (y.mono B1.size));clear y X1 B1;by_cases m:aw t=ZA∨2000<(tx.size:Int)
 ·have hd:=th.out;rw[p6 m] at hd;have q:=u.out;rw[gM (by omega)] at q;have n:=ZK.out;rw[gM (by omega)] at n;subst hd q n;obtain⟨r0,q0⟩:=F.r0;obtain⟨r1,ZN⟩:=F.r1;cases hn:aw t with
  |false =>clear m;go_wp2;exact bp (v:=.tuple #[ZH #[Z Y 0 0,Z Y 0 0],N I 2]) (by simp[results,UF,go_sem,r0,r1]) rfl ⟨_,_,[],rfl,A9 _ _ _ _,dh _ _,rfl,(ZM.setCell (by simp) _).setCell (by simp) _⟩
  |true =>have DS:(2000:Int)<tx.size:=m.resolve_left (by simp[hn]);clear m;go_wp2;exact bp (v:=.tuple #[ZH #[Z Y 0 0,Z Y 0 0],N I 2]) (by simp[results,UF,go_sem,r0,r1]) rfl ⟨_,_,[],rfl,A9 _ _ _ _,dh _ _,rfl,(ZM.setCell (by simp) _).setCell (by simp) _⟩
 have ro:=th.out;rw[gM m] at ro;have DE:=ae ro;have hn:aw t=ZG:=by
  cases h:aw t with
  |true=>rfl
  |false=>exact absurd (.inl h) m
 have DS:¬ (2000:Int)<tx.size:=λh=>m (.inr h);clear ro th m;have k0:=F.a0;have k1:=F.a1;rw[hn];go_wp2_with fail;refine(gw a0 n0 c0 f0 a1 n1 c1 f1 t _ hn0 hn1 (V0.aa ZM ly) (V1.aa ZM ly) HF).mono ?_;rintro e w3 ⟨v0,v1,R,rfl,hO,hR,hM,y⟩;have hlt2:=F.lt;have X3:=ae (F.aa y F.lt');have B3:=ae (ZM.trans (y.mono ZM.size));obtain⟨sa,sc,rfl⟩:=aU hO;obtain⟨ta,tc,rfl⟩:=aU hR.i;have eR:R.length=(keepT f1 t n1).length:=by rw[<-hM];simp
 have Fk:=ku f0 t n0;have Fm:=kv f1 t n1;obtain⟨L,hL⟩:∃L,L=bY f0 t n0:=⟨_,rfl⟩
 obtain⟨K,hK⟩:∃K,K=keepT f1 t n1:=⟨_,rfl⟩
 rw[<-hL] at hO Fk ⊢;rw[<-hK] at hM Fm eR;have B:=DE.out;rw[<-hL,<-hK] at B;have q:=u.out;rw[<-hL] at q;have n:=ZK.out;rw[<-hK] at n;have ER:=ae eR;have hlr:R.length<=n1:=by omega
 clear DE u ZK hL hK y k0 k1 hn F ZM eR;have O3:=ae (aB hO (base':=w.heap.size) (by omega));have RX:Hid (∀P,Below w3.heap.size w3 P->TRow P (w2.heap.size+3) (Z ta R.length tc) R):=λP hb=>hR.aa hb ly;have HM:=ae hM;have hll:(L.length:Int)<=1048576:=by omega
 clear hO hR hM;obtain⟨w4,V⟩:∃W:M,w3.alloc (J #[Z sa L.length sc,Z ta R.length tc] 27)=W:=⟨_,rfl⟩
 obtain⟨DB,-,ZJ⟩:=nb1 V;have ld:=ae V;clear V;have S:=ae (uO w3 (Z sa L.length sc) (Z ta R.length tc) 27);have X4:=ae (X3.aa DB X3.lt');have B4:=ae (B3.trans (DB.mono B3.size));have O4:=ae (own_below O3 DB ly);have qr:=ae DB.out;have DH:w.heap.size+1<w3.heap.size:=X3.lt;have c8:=S.c0;have c9:=S.c1;clear O3 DB;by_cases hc3:(200:Int)<=L.length+R.length;{rw[p6 (by have:=ER.out;omega)] at B;rw[gM (by omega)] at q n;subst B q n;obtain⟨r0,q0⟩:=X3.r0;obtain⟨r1,ZN⟩:=X3.r1;clear c8 c9;go_wp2;exact bp (v:=.tuple #[ZH #[Z Y 0 0,Z Y 0 0],N I 3]) (by simp[results,UF,go_sem,r0,r1,DH]) rfl ⟨_,_,[],rfl,A9 _ _ _ _,dh _ _,rfl,((B3.setCell (by simp) _).setCell (by simp) _).alloc (by have:=B3.size;simp;omega) _⟩};clear X3 B3;rw[gM (by have:=ER.out;omega)] at B;rw[p6 B] at q n;subst B n;have u:=ae q;clear q;go_wp2;rw[ld.out] at S c8 c9 ⊢;clear ld;generalize w3.heap.size=X at S c8 c9 DH ZJ RX qr ⊢;obtain⟨r,ph⟩:∃r,r=w4.heap.size:=⟨_,rfl⟩
 have E0:Hid (Below r w4 (w4.alloc (J #[] 142))):=by rw[ph];exact br.alloc ly _
 have W0:Hid ((w4.alloc (J #[] 142)).ownsRow r 142 2 (Z (T (Q (X+1) 0 Y)) 0 0) 0 []):=by rw[<-ZJ];exact P3 w4 #[] 0 (by omega) (by unfold maxLen;omega) rfl
 have x:X<r:=by have:=S.lt;omega
 have f:=ae ph;have ZO:=ae ZJ;clear ph ZJ;go_loopw [9,10,11] (λv d i wr=>∃(k:Nat) (db:Bool),k<=L.length/\i=N I k/\d=.bool db/\Hid (db=fe L t k)/\Hid (wr.ownsRow r 142 2 v (bZ L ⟨t,tx⟩ t k).length ((bZ L ⟨t,tx⟩ t k).flatMap bK))/\Hid (Below r w4 wr)) (λ_ _ i _=>L.length - (intOf i).toNat);case atStart=>exact⟨0,ZA,by omega,rfl,rfl,rfl,W0,E0⟩
 case round =>
  obtain⟨k,db,hk,rfl,rfl,A,z,l⟩:=hrel;have e8:=(l.cell (p:=(Q X 0 Y)) x).trans c8;have Fd:=sJ L ⟨t,tx⟩ t k;obtain⟨hlen1,dg⟩:=Fd;have HL2:=ae dg;clear dg;by_cases n:k<L.length
  ·obtain⟨b,off,rfl,hr⟩:=(yd O4).resolve_left (by omega);obtain⟨p0,p1⟩:=hr.2 k n;have fd:b<r:=by have:=hr.1;have:=f.out;omega
   have d0:=(l.cell (p:=(Q b (off+k*2) Y)) fd).trans p0;have d1:=(l.cell (p:=(Q b (off+k*2+1) Y)) fd).trans p1;clear hr;cases db with
   |true =>
    have HI:Hid (bZ L ⟨t,tx⟩ t (k+1)=bZ L ⟨t,tx⟩ t k++[dd L k]):=by show(if _ then _ else _)=_;rw[gM (by rw[<-A.out];simp)]
    have HN:Hid (ZG=fe L t (k+1)):=by show ZG=(fe L t k || _);rw[<-A.out];rfl
    go_wp2_with (at_builtin;(refine BS _ rfl (.tmp 63) (.tmp 69) 24 rfl r 142 H (ZH #[U ⟨#[]⟩,U ⟨#[]⟩]) 2 32 RQ E ZQ ZP ZR rfl (by decide) _ (bZ L ⟨t,tx⟩ t k).length ((bZ L ⟨t,tx⟩ t k).flatMap bK) (by simp[Act.eval]) (z.alloc _) (Q wr.heap.size 0 Y) 1 1 (bK (dd L k)) (by simp[Act.eval]) rfl (dv wr _ _ _) (by simp[bK,Value.oneCell']) (by unfold maxLen;omega) (by omega) (by have:=l.size;have:=f.out;simp;omega) ?_;intro vy wy g c o;have OY:=ae g;have BY:=ae (bg (l.alloc (by have:=l.size;have:=f.out;omega) (J #[U (dd L k).e,U (dd L k).B] 142)) c (by have:=l.size;have:=f.out;simp;omega) (λj e=>(z.lt j e).1));clear g c o));exact⟨⟨k+1,ZG,by omega,by go_num,rfl,HN,by show World.ownsRow _ _ _ _ _ _ _;rw[HI.out,cM,BO];simpa using OY.out,BY⟩,by simp[intOf];omega⟩
   |false =>
    cases hq:eC t (dd L k).e with
    |true =>
     have HI:Hid (bZ L ⟨t,tx⟩ t (k+1)=bZ L ⟨t,tx⟩ t k++[⟨t,tx⟩]++[dd L k]):=by show(if _ then _ else _)=_;rw[p6 ⟨A.symm,hq⟩]
     have HN:Hid (ZG=fe L t (k+1)):=by show ZG=(fe L t k || _);rw[hq];simp
     obtain⟨ZN,q2⟩:=sI hq;clear hq;go_wp2_with (at_builtin;first|(refine BS _ rfl (.tmp 57) (.tmp 61) 24 rfl r 142 H (ZH #[U ⟨#[]⟩,U ⟨#[]⟩]) 2 32 RQ E ZQ ZP ZR rfl (by decide) _ (bZ L ⟨t,tx⟩ t k).length ((bZ L ⟨t,tx⟩ t k).flatMap bK) (by simp[Act.eval]) (z.alloc _) (Q wr.heap.size 0 Y) 1 1 (bK ⟨t,tx⟩) (by simp[Act.eval]) rfl (dv wr _ _ _) (by simp[bK,Value.oneCell']) (by unfold maxLen;omega) (by omega) (by have:=l.size;have:=f.out;simp;omega) ?_;intro vx wx g c o;have OX:=ae g;have ZL:=ae (bg (l.alloc (by have:=l.size;have:=f.out;omega) (J #[U t,U tx] 142)) c (by have:=l.size;have:=f.out;simp;omega) (λj e=>(z.lt j e).1));have f8:=(ZL.cell (p:=(Q X 0 Y)) x).trans c8;have g0:=(ZL.cell (p:=(Q b (off+k*2) Y)) fd).trans p0;have g1:=(ZL.cell (p:=(Q b (off+k*2+1) Y)) fd).trans p1;clear g c o)|(refine BS _ rfl (.tmp 63) (.tmp 69) 24 rfl r 142 H (ZH #[U ⟨#[]⟩,U ⟨#[]⟩]) 2 32 RQ E ZQ ZP ZR rfl (by decide) _ ((bZ L ⟨t,tx⟩ t k).length+1) ((bZ L ⟨t,tx⟩ t k).flatMap bK++bK ⟨t,tx⟩) (by simp[Act.eval]) (OX.alloc _) (Q wx.heap.size 0 Y) 1 1 (bK (dd L k)) (by simp[Act.eval]) rfl (dv wx _ _ _) (by simp[bK,Value.oneCell']) (by unfold maxLen;omega) (by omega) (by have:=ZL.size;have:=f.out;simp;omega) ?_;intro vy wy g c o;have OY:=ae g;have BY:=ae (bg (ZL.alloc (by have:=ZL.size;have:=f.out;omega) (J #[U (dd L k).e,U (dd L k).B] 142)) c (by have:=ZL.size;have:=f.out;simp;omega) (λj e=>(OX.lt j e).1));clear g c o));exact⟨⟨k+1,ZG,by omega,by go_num,rfl,HN,by show World.ownsRow _ _ _ _ _ _ _;rw[HI.out,cM,cM,BO,BO];simpa using OY.out,BY⟩,by simp[intOf];omega⟩
    |false =>
     have HI:Hid (bZ L ⟨t,tx⟩ t (k+1)=bZ L ⟨t,tx⟩ t k++[dd L k]):=by show(if _ then _ else _)=_;rw[gM (by rw[hq];simp)]
     have HN:Hid (ZA=fe L t (k+1)):=by show ZA=(fe L t k || _);rw[<-A.out,hq];rfl
     have HQ:=ae (uN hq);clear hq;rcases HQ.out with ZN|⟨ZN,q2⟩
     all_goals
      go_wp2_with (at_builtin;(refine BS _ rfl (.tmp 63) (.tmp 69) 24 rfl r 142 H (ZH #[U ⟨#[]⟩,U ⟨#[]⟩]) 2 32 RQ E ZQ ZP ZR rfl (by decide) _ (bZ L ⟨t,tx⟩ t k).length ((bZ L ⟨t,tx⟩ t k).flatMap bK) (by simp[Act.eval]) (z.alloc _) (Q wr.heap.size 0 Y) 1 1 (bK (dd L k)) (by simp[Act.eval]) rfl (dv wr _ _ _) (by simp[bK,Value.oneCell']) (by unfold maxLen;omega) (by omega) (by have:=l.size;have:=f.out;simp;omega) ?_;intro vy wy g c o;have OY:=ae g;have BY:=ae (bg (l.alloc (by have:=l.size;have:=f.out;omega) (J #[U (dd L k).e,U (dd L k).B] 142)) c (by have:=l.size;have:=f.out;simp;omega) (λj e=>(z.lt j e).1));clear g c o));exact⟨⟨k+1,ZA,by omega,by go_num,rfl,HN,by show World.ownsRow _ _ _ _ _ _ _;rw[HI.out,cM,BO];simpa using OY.out,BY⟩,by simp[intOf];omega⟩
  ·have e:L.length=k:=by omega
   subst e;cases db with
   |true =>
    have G:rj L ⟨t,tx⟩ t=bZ L ⟨t,tx⟩ t L.length:=by unfold rj;rw[p6 A.symm]
    obtain⟨va,vc,rfl⟩:=aU z;have OF:Hid (wr.ownsRow r 142 2 (Z va (bZ L ⟨t,tx⟩ t L.length).length vc) LS.length (LS.flatMap bK)):=by show World.ownsRow _ _ _ _ _ _ _;rw[u.out,G];exact z
    have bt:=f.out;have aq:=ZO.out;have H1:=ae bt;have H2:=ae aq;have H3:=ae G;have e9:=(l.cell (p:=(Q X 1 Y)) x).trans c9;have y8:=(l.frozen (p:=(Q X 0 Y)) x).trans S.z0;obtain⟨r0,q0⟩:=(X4.aa l (by omega)).r0;obtain⟨r1,ZN⟩:=(X4.aa l (by omega)).r1;clear bt aq G;go_wp2;have bt:=f.out;have aq:=ZO.out;exact bp (v:=.tuple #[ZH #[Z va (bZ L ⟨t,tx⟩ t L.length).length vc,Z ta R.length tc],N I 0]) (by simp[results,UF,go_sem,r0,r1]) rfl ⟨_,_,R,rfl,aB (aQ (aQ (aQ OF (R:=X) (j:=0) (by omega) _) (R:=w.heap.size+1) (j:=0) (by omega) _) (R:=w.heap.size+1) (j:=1) (by omega) _) (by omega),gN (((RX _ ((qr.trans (l.mono (by omega))).setCell (p:=(Q X 0 Y)) ly _)).set (X:=w.heap.size+1) (j:=0) (by omega) _).set (X:=w.heap.size+1) (j:=1) (by omega) _) (by omega),HM,(((B4.trans (l.mono (by omega))).setCell (by simp;omega) _).setCell (by simp) _).setCell (by simp) _⟩
   |false =>
    go_wp2_with (at_builtin;(refine BS _ rfl (.tmp 73) (.tmp 77) 24 rfl r 142 H (ZH #[U ⟨#[]⟩,U ⟨#[]⟩]) 2 32 RQ E ZQ ZP ZR rfl (by decide) _ (bZ L ⟨t,tx⟩ t L.length).length ((bZ L ⟨t,tx⟩ t L.length).flatMap bK) (by simp[Act.eval]) (z.alloc _) (Q wr.heap.size 0 Y) 1 1 (bK ⟨t,tx⟩) (by simp[Act.eval]) rfl (dv wr _ _ _) (by simp[bK,Value.oneCell']) (by unfold maxLen;omega) (by omega) (by have:=l.size;have:=f.out;simp;omega) ?_;intro vz wz g c o;obtain⟨gs,cs,rfl⟩:=fv g (by omega);have OZ:=ae g;have O:=ae (bg (l.alloc (by have:=l.size;have:=f.out;omega) (J #[U t,U tx] 142)) c (by have:=l.size;have:=f.out;simp;omega) (λj e=>(z.lt j e).1));have f8:=(O.cell (p:=(Q X 0 Y)) x).trans c8;have f9:=(O.cell (p:=(Q X 1 Y)) x).trans c9;have y8:=(O.frozen (p:=(Q X 0 Y)) x).trans S.z0;obtain⟨r0,q0⟩:=(X4.aa O (by have:=f.out;have:=ZO.out;omega)).r0;obtain⟨r1,ZN⟩:=(X4.aa O (by have:=f.out;have:=ZO.out;omega)).r1;clear g c o));have G:rj L ⟨t,tx⟩ t=bZ L ⟨t,tx⟩ t L.length++[⟨t,tx⟩]:=by unfold rj;rw[gM (by rw[<-A.out];simp)]
    have OF:Hid (wz.ownsRow r 142 2 (Z (T (Q gs 0 Y)) ((bZ L ⟨t,tx⟩ t L.length).length+1) cs) LS.length (LS.flatMap bK)):=by show World.ownsRow _ _ _ _ _ _ _;rw[u.out,G,cM,BO];simpa using OZ.out
    have bt:=f.out;have aq:=ZO.out;exact bp (v:=.tuple #[ZH #[Z (T (Q gs 0 Y)) ((bZ L ⟨t,tx⟩ t L.length).length+1) cs,Z ta R.length tc],N I 0]) (by simp[results,UF,go_sem,r0,r1]) rfl ⟨_,_,R,rfl,aB (aQ (aQ (aQ OF (R:=X) (j:=0) (by omega) _) (R:=w.heap.size+1) (j:=0) (by omega) _) (R:=w.heap.size+1) (j:=1) (by omega) _) (by omega),gN (((RX _ ((qr.trans (O.mono (by omega))).setCell (p:=(Q X 0 Y)) ly _)).set (X:=w.heap.size+1) (j:=0) (by omega) _).set (X:=w.heap.size+1) (j:=1) (by omega) _) (by omega),HM,(((B4.trans (O.mono (by omega))).setCell (by simp;omega) _).setCell (by simp) _).setCell (by simp) _⟩
theorem uZ (a0:Option Addr)(n0 c0:Nat)(f0:Nat->Source)(a1:Option Addr)(n1 c1:Nat)(f1:Nat->Target)(t:ByteArray)(w:M)(hn0:(n0:Int)<=1048576)(hn1:(n1:Int)<=1048576)(bt:SlSource w a0 n0 f0)(aq:SlTarget w a1 n1 f1)(H:∀i,i<n1->cT (f1 i))(hs:∀i,i<n1->∀j,j<(f1 i).f->((f1 i).H j).s.size<=maxLen):Calls Tryz.prog 35 #[ZH #[Z a0 n0 c0,Z a1 n1 c1],U t] w λe w'=>∃v0 ZJ R,e=ZF (.tuple #[ZH #[v0,ZJ],N I (lZ n0 f0 n1 f1 t)])/\w'.ownsRow w.heap.size 142 2 v0 (jy n0 f0 n1 f1 t).length ((jy n0 f0 n1 f1 t).flatMap bK)/\TRow w' w.heap.size ZJ R/\R.map (·.1)=mc n0 f0 n1 f1 t/\Below w.heap.size w w':=by
 have V0:=ae bt;have V1:=ae aq;have HF:=ae H;have HS:=ae hs;clear bt aq H hs;obtain⟨C,hC⟩:∃C,C=ce n0 f0 n1 f1:=⟨_,rfl⟩
 obtain⟨D,S⟩:∃D,D=lZ n0 f0 n1 f1 t:=⟨_,rfl⟩
 obtain⟨LS,ZM⟩:∃LS,LS=jy n0 f0 n1 f1 t:=⟨_,rfl⟩
 obtain⟨LT,V⟩:∃LT,LT=mc n0 f0 n1 f1 t:=⟨_,rfl⟩
 rw[<-S,<-ZM,<-V];have HC:=ae hC;have HD:=ae (S.trans (by unfold lZ;rw[<-hC]));have m:=ae (ZM.trans (by unfold jy;rw[<-S]));have n:=ae (V.trans (by unfold mc;rw[<-S]));clear hC S ZM V;obtain⟨W,L⟩:∃W:M,(w.alloc (J #[Z a0 n0 c0,Z a1 n1 c1] 27)).alloc (J #[Z Y 0 0,Z Y 0 0] 27)=W:=⟨_,rfl⟩
 obtain⟨ZQ,-,-,-⟩:=nb2 L;have fd:=ae L;clear L;have ZK:=ae (uJ w (Z a0 n0 c0) (Z a1 n1 c1) 27);go_enter Tryz.func35,Tryz.ntmps35;go_wp2_with fail;rw[fd.out] at ZK ⊢;clear fd;refine(fC a0 n0 c0 f0 a1 n1 c1 f1 _ hn0 hn1 (V0.aa ZQ ly) (V1.aa ZQ ly) HF HS).mono ?_;rintro e w1 ⟨rfl,b⟩;rw[<-HC.out];have K:=ae (ZK.aa b ZK.lt');have B1:=ae (ZQ.trans (b.mono ZQ.size));clear b ZQ ZK;by_cases hc:C=0;case neg =>
  have g:=HD.out;rw[p6 hc] at g;have c:=m.out;rw[gM (by omega)] at c;have f:=n.out;rw[gM (by omega)] at f;subst g c f;have hc':(C == 0)=ZA:=by simpa using hc
  obtain⟨r0,q0⟩:=K.r0;obtain⟨r1,q1⟩:=K.r1;go_wp2;exact bp (v:=.tuple #[ZH #[Z Y 0 0,Z Y 0 0],N I 1]) (by simp[results,VM,go_sem,r0,r1]) rfl ⟨_,_,[],rfl,A9 _ _ _ _,dh _ _,rfl,(B1.setCell (by simp) _).setCell (by simp) _⟩
 subst hc;have hz:=me HC.symm;have HZ:=ae hz;clear hz HC;have P:=HD.out;rw[gM (by omega)] at P;have ZL:=ae P;clear P HD;go_wp2_with fail;refine(dc t _).mono ?_;rintro e w2 ⟨rfl,b⟩;have o:=ae (K.aa b K.lt');have ZR:=ae (B1.trans (b.mono B1.size));clear b K B1;cases hn:aw t with
 |false =>have g:=ZL.out;rw[p6 hn] at g;have c:=m.out;rw[gM (by omega)] at c;have f:=n.out;rw[gM (by omega)] at f;subst g c f;clear hn;obtain⟨r0,q0⟩:=o.r0;obtain⟨r1,q1⟩:=o.r1;go_wp2;exact bp (v:=.tuple #[ZH #[Z Y 0 0,Z Y 0 0],N I 2]) (by simp[results,VM,go_sem,r0,r1]) rfl ⟨_,_,[],rfl,A9 _ _ _ _,dh _ _,rfl,(ZR.setCell (by simp) _).setCell (by simp) _⟩
 |true =>
  have O:=ZL.out;rw[gM (by simp[hn])] at O;have ZP:=ae O;clear O ZL hn;have F:=o.a0;have E:=o.a1;go_wp2_with fail;refine(uM a0 n0 c0 a1 n1 c1 f0 t _ hn0 (V0.aa ZR ly)).mono ?_;rintro e wS ⟨r,rfl,A,b⟩;have G:=ae (o.aa b o.lt');have ZN:=ae (ZR.trans (b.mono ZR.size));clear b o ZR F E;have F:=G.a0;have E:=G.a1;by_cases hr:r<0
  ·have dg:Hid (cI (nm0 f0) n0 t=ZA):=by show _=ZA;rw[<-A];simpa using hr
   clear A;go_wp2_with fail;refine(mU a0 n0 c0 a1 n1 c1 f1 t _ hn1 (V1.aa ZN ly)).mono ?_;rintro e w3 ⟨q,rfl,B,b⟩;have h:=ae (G.aa b G.lt');have l:=ae (ZN.trans (b.mono ZN.size));clear b G ZN F E;have F:=h.a0;have E:=h.a1;by_cases hq:q<0
   ·have hi:(cI (nm0 f0) n0 t || cI (nm1 f1) n1 t)=ZA:=by rw[dg.out,<-B];simpa using hq
    clear B;have g:=ZP.out;rw[p6 hi] at g;have c:=m.out;rw[gM (by omega)] at c;have f:=n.out;rw[gM (by omega)] at f;subst g c f;obtain⟨r0,q0⟩:=h.r0;obtain⟨r1,q1⟩:=h.r1;go_wp2;exact bp (v:=.tuple #[ZH #[Z Y 0 0,Z Y 0 0],N I 4]) (by simp[results,VM,go_sem,r0,r1]) rfl ⟨_,_,[],rfl,A9 _ _ _ _,dh _ _,rfl,(l.setCell (by simp) _).setCell (by simp) _⟩
   ·have hi:(cI (nm0 f0) n0 t || cI (nm1 f1) n1 t)=ZG:=by rw[dg.out,<-B];simpa using hq
    clear B;have g:=ZP.out;rw[gM (by simp[hi])] at g;have c:=m.out;rw[p6 g] at c;have f:=n.out;rw[p6 g] at f;subst g c f;go_wp2_with fail;refine(gw a0 n0 c0 f0 a1 n1 c1 f1 t _ hn0 hn1 (V0.aa l ly) (V1.aa l ly) HF).mono ?_;rintro e w4 ⟨v0,ZJ,R,rfl,u,hR,hM,b⟩;have ZO:=ae (h.aa b h.lt');have la:=h.lt;have B4:=ae (l.trans (b.mono l.size));obtain⟨z,p,rfl⟩:=aU u;obtain⟨x,y,rfl⟩:=aU hR.i;have O4:=ae (aB (aQ (aQ (R:=w.heap.size+1) (j:=0) u (by omega) (Z z (bY f0 t n0).length p)) (R:=w.heap.size+1) (j:=1) (by omega) (Z x R.length y)) (base':=w.heap.size) (by omega));have T4:=ae (gN ((hR.set (X:=w.heap.size+1) (j:=0) (by omega) (Z z (bY f0 t n0).length p)).set (X:=w.heap.size+1) (j:=1) (by omega) (Z x R.length y)) (base':=w.heap.size) (by omega));have HM:=ae hM;clear u hR b hM F E;obtain⟨r0,q0⟩:=ZO.r0;obtain⟨r1,q1⟩:=ZO.r1;go_wp2;exact bp (v:=.tuple #[ZH #[Z z (bY f0 t n0).length p,Z x R.length y],N I 0]) (by simp[results,VM,go_sem,r0,r1]) rfl ⟨_,_,R,rfl,O4,T4,HM,(B4.setCell (by simp) _).setCell (by simp) _⟩
  ·have hi:(cI (nm0 f0) n0 t || cI (nm1 f1) n1 t)=ZG:=by rw[<-A];have:decide (0<=r)=ZG:=decide_eq_true (by omega);rw[this];rfl
   clear A;have h:=G;have l:=ZN;have g:=ZP.out;rw[gM (by simp[hi])] at g;have c:=m.out;rw[p6 g] at c;have f:=n.out;rw[p6 g] at f;subst g c f;go_wp2_with fail;refine(gw a0 n0 c0 f0 a1 n1 c1 f1 t _ hn0 hn1 (V0.aa l ly) (V1.aa l ly) HF).mono ?_;rintro e w4 ⟨v0,ZJ,R,rfl,u,hR,hM,b⟩;have ZO:=ae (h.aa b h.lt');have la:=h.lt;have B4:=ae (l.trans (b.mono l.size));obtain⟨z,p,rfl⟩:=aU u;obtain⟨x,y,rfl⟩:=aU hR.i;have O4:=ae (aB (aQ (aQ (R:=w.heap.size+1) (j:=0) u (by omega) (Z z (bY f0 t n0).length p)) (R:=w.heap.size+1) (j:=1) (by omega) (Z x R.length y)) (base':=w.heap.size) (by omega));have T4:=ae (gN ((hR.set (X:=w.heap.size+1) (j:=0) (by omega) (Z z (bY f0 t n0).length p)).set (X:=w.heap.size+1) (j:=1) (by omega) (Z x R.length y)) (base':=w.heap.size) (by omega));have HM:=ae hM;clear u hR b hM F E;obtain⟨r0,q0⟩:=ZO.r0;obtain⟨r1,q1⟩:=ZO.r1;go_wp2;exact bp (v:=.tuple #[ZH #[Z z (bY f0 t n0).length p,Z x R.length y],N I 0]) (by simp[results,VM,go_sem,r0,r1]) rfl ⟨_,_,R,rfl,O4,T4,HM,(B4.setCell (by simp) _).setCell (by simp) _⟩
