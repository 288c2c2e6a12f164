import Derived.Deep.RegionHeld
open Option renaming none->Z,some->T
open Go renaming World->M,Value->ZB
open Bool renaming false->ZA,true->ZF
namespace Go.Proofs.YtpmnbjkjpnclaaaGreatDoor.Vp
section
variable {P:Program}{ops:Array Oper}{ZN:Exit->Act->M->Prop}{md:Region.Mode}{S:M->Prop}
theorem xG {i:Nat}{b:Oper}{v:ZB}{k:Nat}{l:Array Bool}{a:Act}{w:M}(hi:ops.toList[i]?=T b)(o:Region.noSelect ops=ZF)(n:Region.free md ops l i=ZF)(j:(Region.ready md ops l).contains i=ZF)
  (g:∀c a w,ZN (.panic c) (a.put b.dst v) w->ZN (.panic c) a w) (p:Region.wanted b (yielded ops a.tmps)=ZF) (m:∀w,S w->(execOp a.eval b).run P w=.ok (.value v) w) (f:S w)
  (h:wpAnyH P md ops ZN S k (l.setIfInBounds i ZF) (a.put b.dst v) w):wpAnyH P md ops ZN S (k+1) l a w:=by
 rw[Array.getElem?_toList] at hi;exact wpAnyH_take hi o n j g (.inl ⟨p,λw f=>m w f⟩) f h
def nxS:List Bool->Nat->Option Nat
 |[],_=>Z
 |true::l,j=>nxS l (j+1)
 |false::_,j=>T j
theorem aR (j:Nat){i:Nat}{b:Oper}{v:ZB}{k:Nat}{l:Array Bool}{a:Act}{w:M}(_:nxS (l.toList.drop j) j=T i)(hi:ops.toList[i]?=T b)(f:(Region.noSelect ops && Region.free md ops l i && (Region.ready md ops l).contains i)=ZF)
  (g:∀c a w,ZN (.panic c) (a.put b.dst v) w->ZN (.panic c) a w) (n:Region.wanted b (yielded ops a.tmps)=ZF) (m:∀w,S w->(execOp a.eval b).run P w=.ok (.value v) w) (o:S w)
  (h:wpAnyH P md ops ZN S k (l.setIfInBounds i ZF) (a.put b.dst v) w):wpAnyH P md ops ZN S (k+1) l a w:=by
 simp only[Bool.and_eq_true] at f;exact xG hi f.1.1 f.1.2 f.2 g n m o h
theorem aI {i:Nat}{o:Oper}{k:Nat}{l:Array Bool}{a:Act}{w:M}(f:ops.toList[i]?=T o)(g:Region.ready md ops l=[i])
  (h:∀b:Act->M->Prop,Shut (∀a w,S w->wpAnyH P md ops ZN S k (l.setIfInBounds i ZF) a w->b a w)->if Region.wanted o (yielded ops a.tmps)=ZF then Oper.wp P o a w b ZN else b (a.put o.dst undef) w) :
  wpAnyH P md ops ZN S (k+1) l a w:=by
 rw[Array.getElem?_toList] at f;exact wpAnyH_ready g (List.cons_ne_nil _ _) (AllReadyH.cons f (λb m=>h b (λa w n j=>m a w n (λ_=>j))) AllReadyH.nil)
theorem oP (j:Nat){i:Nat}{o:Oper}{k:Nat}{l:Array Bool}{a:Act}{w:M}(_:nxS (l.toList.drop j) j=T i)(g:ops.toList[i]?=T o)(f:Region.ready md ops l=[i])
  (h:∀b:Act->M->Prop,Shut (∀a w,S w->wpAnyH P md ops ZN S k (l.setIfInBounds i ZF) a w->b a w)->if Region.wanted o (yielded ops a.tmps)=ZF then Oper.wp P o a w b ZN else b (a.put o.dst undef) w) :
  wpAnyH P md ops ZN S (k+1) l a w:=aI g f h
end
end Go.Proofs.YtpmnbjkjpnclaaaGreatDoor.Vp
namespace Go.Proofs.YtpmnbjkjpnclaaaGreatDoor.Ca
section
variable {P:Program}{ops:Array Oper}{ZN:Exit->Act->M->Prop}{md:Region.Mode}{S:M->Prop}{n:Nat}
def df (P:Program)(md:Region.Mode)(ops:Array Oper)(ZN:Exit->Act->M->Prop)(S:M->Prop)(n:Nat):Nat->Array Bool->Act->M->Prop
 |0,l,a,w=>Region.ready md ops l=[]/\ZN .normal a w
 |k+1,l,a,w=>(Region.ready md ops l=[]->ZN .normal a w)/\∀i∈Region.ready md ops l,wpOp P ops ZN i (λf b=>(i≠n->S b)/\df P md ops ZN S n k (l.setIfInBounds i ZF) f b) a w
theorem rh:∀(k:Nat) (l:Array Bool) (a:Act) (w:M),df P md ops ZN S n k l a w->wpAny P md ops ZN k l a w
 |0,_,_,_,h=>h
 |k+1,_,_,_,h=>⟨h.1,λi hi=>wpOp_mono (λb f x=>rh k _ b f x.2) (h.2 i hi)⟩
def waitsFor (md:Region.Mode)(ops:Array Oper)(n i:Nat):Bool:=match ops[n]? with
 |some o=>o.after.any λe=>Region.binds md e && e.on == i
 |none=>ZA
theorem xH {i:Nat}{o:Oper}(h:waitsFor md ops n i=ZF)(b:ops[n]?=T o)(hn:∀e∈o.after,Region.binds md e=ZF->e.on≠i):False:=by unfold waitsFor at h;simp only[b] at h;obtain⟨e,f,h2⟩:=Array.any_eq_true'.1 h;simp only[Bool.and_eq_true,beq_iff_eq] at h2;exact hn e f h2.1 h2.2
theorem vD {i:Nat}{p:Oper}{v:ZB}(hi:ops[i]?=T p)(t:∀(j:Nat) (o:Oper) s b,ops[j]?=T o->o.op≠.select s b)(ZQ:∀c a w,ZN (.panic c) (a.put p.dst v) w->ZN (.panic c) a w)(O:waitsFor md ops n i=ZF):∀(k:Nat) (l:Array Bool) (a:Act) (w:M),(∀j g,ops[j]?=T g->j≠i->l.getD j ZF=ZA->(∀e∈g.after,Region.binds md e=ZF->e.on≠i)->p.apart ops g=ZF) ->
   i∈Region.ready md ops l->YieldsIf P ops S p v a->S w->df P md ops ZN S n k (l.setIfInBounds i ZF) (a.put p.dst v) w->df P md ops ZN S n (k+1) l a w:=by
 intro k;induction k with
 |zero =>
  intro l a w _ q u r H;refine⟨λe=>absurd q (by rw[e];exact List.not_mem_nil),λj y=>?_⟩;rcases Decidable.em (j=i) with rfl|f;{exact u.wpOp hi r ⟨λ_=>r,H⟩};{exact absurd (ready_mono y f) (by rw[H.1];exact List.not_mem_nil)}
 |succ k ZK =>
  intro l a w E q u r H;refine⟨λe=>absurd q (by rw[e];exact List.not_mem_nil),λj y=>?_⟩;rcases Decidable.em (j=i) with rfl|f;{exact u.wpOp hi r ⟨λ_=>r,H⟩};{obtain⟨L,g,h,C⟩:=mem_ready.1 y;have z:∀e∈g.after,Region.binds md e=ZF->e.on≠i:=λe R hb x=>(by have h1:=C e R hb;have G:=(mem_ready.1 q).1;rw[x] at h1;rcases Nat.lt_or_ge i l.size with B|B;{simp[B] at G h1;rw[G] at h1;cases h1};{simp[Array.getElem?_eq_none B] at h1});have A:j≠n:=λe=>xH O (e ▸ h) z;refine wpOp_mono (λZM V x=>⟨λ_=>x.2.1 A,ZK _ ZM V (λm W ZL ZP K ZO=>E m W ZL ZP ?_ ZO) (ready_mono q (Ne.symm f)) x.1 (x.2.1 A) ?_⟩) (wpOp_putIf h (E j g h f L z) (λs b=>t i p s b hi) (λs b=>t j g s b h) ZQ u (H.2 j (ready_mono y f)));{rcases Decidable.em (j=m) with rfl|D;{exact L};{rwa[getD_set_ne ZF D] at K}};{rw[Array.setIfInBounds_comm _ _ f];exact x.2.2}}
theorem eP {i:Nat}{b:Oper}{v:ZB}{k:Nat}{l:Array Bool}{a:Act}{w:M}(hi:ops.toList[i]?=T b)(p:Region.noSelect ops=ZF)(o:Region.free md ops l i=ZF)(g:(Region.ready md ops l).contains i=ZF)(j:waitsFor md ops n i=ZF)
  (f:∀c a w,ZN (.panic c) (a.put b.dst v) w->ZN (.panic c) a w) (q:b.guard=Z) (m:∀w,S w->(execOp a.eval b).run P w=.ok (.value v) w) (r:S w)
  (h:df P md ops ZN S n k (l.setIfInBounds i ZF) (a.put b.dst v) w):df P md ops ZN S n (k+1) l a w:=by
 rw[Array.getElem?_toList] at hi;exact vD hi (Region.noSelect_spec p) f j k l a w (Region.free_spec hi o) (by simpa using g) (.inl ⟨by simp[Region.wanted,q],m⟩) r h
def nxA:List Bool->Nat->Option Nat
 |[],_=>Z
 |true::l,j=>nxA l (j+1)
 |false::_,j=>T j
theorem aH (j:Nat){i:Nat}{f:Oper}{v:ZB}{k:Nat}{l:Array Bool}{a:Act}{w:M}(_:nxA (l.toList.drop j) j=T i)(hi:ops.toList[i]?=T f)(b:(Region.noSelect ops && Region.free md ops l i && (Region.ready md ops l).contains i && waitsFor md ops n i)=ZF)
  (g:∀c a w,ZN (.panic c) (a.put f.dst v) w->ZN (.panic c) a w) (o:f.guard=Z) (m:∀w,S w->(execOp a.eval f).run P w=.ok (.value v) w) (p:S w)
  (h:df P md ops ZN S n k (l.setIfInBounds i ZF) (a.put f.dst v) w):df P md ops ZN S n (k+1) l a w:=by
 simp only[Bool.and_eq_true] at b;exact eP hi b.1.1.1 b.1.1.2 b.1.2 b.2 g o m p h
theorem ai {i:Nat}{o:Oper}{k:Nat}{l:Array Bool}{a:Act}{w:M}(m:ops.toList[i]?=T o)(g:Region.ready md ops l=[i])
  (h:∀b:Act->M->Prop,Shut (∀a w,(i≠n->S w)->df P md ops ZN S n k (l.setIfInBounds i ZF) a w->b a w)->if Region.wanted o (yielded ops a.tmps)=ZF then Oper.wp P o a w b ZN else b (a.put o.dst undef) w) :
  df P md ops ZN S n (k+1) l a w:=by
 rw[Array.getElem?_toList] at m;refine⟨λe=>absurd e (by rw[g];exact List.cons_ne_nil _ _),λj f=>?_⟩;rw[g] at f;obtain rfl:=List.mem_singleton.1 f;exact wpOp_step m λb q=>h b λa w r p=>q a w ⟨r,p⟩
theorem bH (j:Nat){i:Nat}{o:Oper}{k:Nat}{l:Array Bool}{a:Act}{w:M}(_:nxA (l.toList.drop j) j=T i)(g:ops.toList[i]?=T o)(f:Region.ready md ops l=[i])
  (h:∀b:Act->M->Prop,Shut (∀a w,(i≠n->S w)->df P md ops ZN S n k (l.setIfInBounds i ZF) a w->b a w)->if Region.wanted o (yielded ops a.tmps)=ZF then Oper.wp P o a w b ZN else b (a.put o.dst undef) w) :
  df P md ops ZN S n (k+1) l a w:=ai g f h
theorem aT {l:Array Bool}{a:Act}{w:M}(b:Region.ready md ops l=[])(h:ZN .normal a w)(k:Nat):df P md ops ZN S n k l a w:=by
 cases k with
 |zero=>exact⟨b,h⟩
 |succ k=>exact⟨λ_=>h,by rw[b];intro i hi;cases hi⟩
theorem aD {id:Nat}{a:Act}{w:M}(S:M->Prop)(n:Nat)(b:P.follows .mixedOrders=ZF)(h:df P .any ops ZN S n ops.size (Array.replicate ops.size ZA) a w.drew):(Code.region id ops ZF).wp P ZN a w :=
 wp_region_any b (rh _ _ _ _ h)
end
section
variable {P:Program}{ops:Array Oper}{ZN:Exit->Act->M->Prop}{md:Region.Mode}{S:M->Prop}{n:Nat}
theorem mE {i j:Nat}{f g:Oper}{k:Nat}{l:Array Bool}{a:Act}{w:M}(hi:ops.toList[i]?=T f)(s:ops.toList[j]?=T g)(r:Region.ready md ops l=[i,j])
  (h1:∀b:Act->M->Prop,Shut (∀a w,(i≠n->S w)->df P md ops ZN S n k (l.setIfInBounds i ZF) a w->b a w)->if Region.wanted f (yielded ops a.tmps)=ZF then Oper.wp P f a w b ZN else b (a.put f.dst undef) w)
  (h2:∀b:Act->M->Prop,Shut (∀a w,(j≠n->S w)->df P md ops ZN S n k (l.setIfInBounds j ZF) a w->b a w)->if Region.wanted g (yielded ops a.tmps)=ZF then Oper.wp P g a w b ZN else b (a.put g.dst undef) w) :
  df P md ops ZN S n (k+1) l a w:=by
 rw[Array.getElem?_toList] at hi s;refine⟨λe=>absurd e (by rw[r];exact List.cons_ne_nil _ _),λm h=>?_⟩;rw[r] at h;rcases List.mem_cons.1 h with rfl|h;{exact wpOp_step hi λb p=>h1 b λa w q o=>p a w ⟨q,o⟩};{obtain rfl:=List.mem_singleton.1 h;exact wpOp_step s λb p=>h2 b λa w q o=>p a w ⟨q,o⟩}
end
end Go.Proofs.YtpmnbjkjpnclaaaGreatDoor.Ca
namespace Go.Proofs.YtpmnbjkjpnclaaaGreatDoor.Vp
section
variable {P:Program}{ops:Array Oper}{ZN:Exit->Act->M->Prop}{md:Region.Mode}{S:M->Prop}
theorem fW {i j:Nat}{f g:Oper}{k:Nat}{l:Array Bool}{a:Act}{w:M}(hi:ops.toList[i]?=T f)(o:ops.toList[j]?=T g)(p:Region.ready md ops l=[i,j])
  (h1:∀b:Act->M->Prop,Shut (∀a w,S w->wpAnyH P md ops ZN S k (l.setIfInBounds i ZF) a w->b a w)->if Region.wanted f (yielded ops a.tmps)=ZF then Oper.wp P f a w b ZN else b (a.put f.dst undef) w)
  (h2:∀b:Act->M->Prop,Shut (∀a w,S w->wpAnyH P md ops ZN S k (l.setIfInBounds j ZF) a w->b a w)->if Region.wanted g (yielded ops a.tmps)=ZF then Oper.wp P g a w b ZN else b (a.put g.dst undef) w) :
  wpAnyH P md ops ZN S (k+1) l a w:=by
 rw[Array.getElem?_toList] at hi o;exact wpAnyH_ready p (List.cons_ne_nil _ _) (AllReadyH.cons hi (λb m=>h1 b (λa w n h=>m a w n (λ_=>h))) (AllReadyH.cons o (λb m=>h2 b (λa w n h=>m a w n (λ_=>h))) AllReadyH.nil))
theorem nJ {i j m:Nat}{n o p:Oper}{k:Nat}{l:Array Bool}{a:Act}{w:M}(hi:ops.toList[i]?=T n)(q:ops.toList[j]?=T o)(r:ops.toList[m]?=T p)(s:Region.ready md ops l=[i,j,m])
  (h1:∀b:Act->M->Prop,Shut (∀a w,S w->wpAnyH P md ops ZN S k (l.setIfInBounds i ZF) a w->b a w)->if Region.wanted n (yielded ops a.tmps)=ZF then Oper.wp P n a w b ZN else b (a.put n.dst undef) w)
  (h2:∀b:Act->M->Prop,Shut (∀a w,S w->wpAnyH P md ops ZN S k (l.setIfInBounds j ZF) a w->b a w)->if Region.wanted o (yielded ops a.tmps)=ZF then Oper.wp P o a w b ZN else b (a.put o.dst undef) w)
  (t:∀b:Act->M->Prop,Shut (∀a w,S w->wpAnyH P md ops ZN S k (l.setIfInBounds m ZF) a w->b a w)->if Region.wanted p (yielded ops a.tmps)=ZF then Oper.wp P p a w b ZN else b (a.put p.dst undef) w) :
  wpAnyH P md ops ZN S (k+1) l a w:=by
 rw[Array.getElem?_toList] at hi q r;exact wpAnyH_ready s (List.cons_ne_nil _ _) (AllReadyH.cons hi (λb g=>h1 b (λa w h f=>g a w h (λ_=>f))) (AllReadyH.cons q (λb g=>h2 b (λa w h f=>g a w h (λ_=>f))) (AllReadyH.cons r (λb g=>t b (λa w h f=>g a w h (λ_=>f))) AllReadyH.nil)))
end
