import Derived.Deep.RegionHeld
open Option renaming none->Y,some->T
open Go renaming World->G,Value->ZD
open Bool renaming false->ZB,true->ZF
namespace Go.Proofs.YthkpcehepgmdgaaGreatDoor.Ca
section
variable {P:Program}{ops:Array Oper}{ZN:Exit->Act->G->Prop}{md:Region.Mode}{S:G->Prop}{n:Nat}
def dN (P:Program)(md:Region.Mode)(ops:Array Oper)(ZN:Exit->Act->G->Prop)(S:G->Prop)(n:Nat):Nat->Array Bool->Act->G->Prop
 |0,l,a,w=>Region.ready md ops l=[]/\ZN .normal a w
 |k+1,l,a,w=>(Region.ready md ops l=[]->ZN .normal a w)/\∀i∈Region.ready md ops l,wpOp P ops ZN i (λf b=>(i≠n->S b)/\dN P md ops ZN S n k (l.setIfInBounds i ZF) f b) a w
theorem sK:∀(k:Nat) (l:Array Bool) (a:Act) (w:G),dN P md ops ZN S n k l a w->wpAny P md ops ZN k l a w
 |0,_,_,_,h=>h
 |k+1,_,_,_,h=>⟨h.1,λi hi=>wpOp_mono (λf b x=>sK k _ f b x.2) (h.2 i hi)⟩
def waitsFor (md:Region.Mode)(ops:Array Oper)(n i:Nat):Bool:=match ops[n]? with
 |some o=>o.after.any λe=>Region.binds md e && e.on == i
 |none=>ZB
theorem zc {i:Nat}{o:Oper}(h:waitsFor md ops n i=ZF)(f:ops[n]?=T o)(hn:∀e∈o.after,Region.binds md e=ZF->e.on≠i):False:=by unfold waitsFor at h;simp only[f] at h;obtain⟨e,b,h2⟩:=Array.any_eq_true'.1 h;simp only[Bool.and_eq_true,beq_iff_eq] at h2;exact hn e b h2.1 h2.2
theorem xk {i:Nat}{p:Oper}{v:ZD}(hi:ops[i]?=T p)(r:∀(j:Nat) (o:Oper) t b,ops[j]?=T o->o.op≠.select t b)(ZM:∀c a w,ZN (.panic c) (a.put p.dst v) w->ZN (.panic c) a w)(R:waitsFor md ops n i=ZF):∀(k:Nat) (l:Array Bool) (a:Act) (w:G),(∀j g,ops[j]?=T g->j≠i->l.getD j ZF=ZB->(∀e∈g.after,Region.binds md e=ZF->e.on≠i)->p.apart ops g=ZF) ->
   i∈Region.ready md ops l->YieldsIf P ops S p v a->S w->dN P md ops ZN S n k (l.setIfInBounds i ZF) (a.put p.dst v) w->dN P md ops ZN S n (k+1) l a w:=by
 intro k;induction k with
 |zero =>
  intro l a w _ s y q H;refine⟨λe=>absurd s (by rw[e];exact List.not_mem_nil),λj u=>?_⟩;rcases Decidable.em (j=i) with rfl|f;{exact y.wpOp hi q ⟨λ_=>q,H⟩};{exact absurd (ready_mono u f) (by rw[H.1];exact List.not_mem_nil)}
 |succ k V =>
  intro l a w E s y q H;refine⟨λe=>absurd s (by rw[e];exact List.not_mem_nil),λj u=>?_⟩;rcases Decidable.em (j=i) with rfl|f;{exact y.wpOp hi q ⟨λ_=>q,H⟩};{obtain⟨D,g,h,C⟩:=mem_ready.1 u;have A:∀e∈g.after,Region.binds md e=ZF->e.on≠i:=λe M hb x=>(by have h1:=C e M hb;have ZS:=(mem_ready.1 s).1;rw[x] at h1;rcases Nat.lt_or_ge i l.size with B|B;{simp[B] at ZS h1;rw[ZS] at h1;cases h1};{simp[Array.getElem?_eq_none B] at h1});have z:j≠n:=λe=>zc R (e ▸ h) A;refine wpOp_mono (λO W x=>⟨λ_=>x.2.1 z,V _ O W (λm ZO ZL L ZQ K=>E m ZO ZL L ?_ K) (ready_mono s (Ne.symm f)) x.1 (x.2.1 z) ?_⟩) (wpOp_putIf h (E j g h f D A) (λt b=>r i p t b hi) (λt b=>r j g t b h) ZM y (H.2 j (ready_mono u f)));{rcases Decidable.em (j=m) with rfl|ZP;{exact D};{rwa[getD_set_ne ZF ZP] at ZQ}};{rw[Array.setIfInBounds_comm _ _ f];exact x.2.2}}
theorem iy {i:Nat}{b:Oper}{v:ZD}{k:Nat}{l:Array Bool}{a:Act}{w:G}(hi:ops.toList[i]?=T b)(q:Region.noSelect ops=ZF)(j:Region.free md ops l i=ZF)(p:(Region.ready md ops l).contains i=ZF)(m:waitsFor md ops n i=ZF)
  (r:∀c a w,ZN (.panic c) (a.put b.dst v) w->ZN (.panic c) a w) (o:b.guard=Y) (g:∀w,S w->(execOp a.eval b).run P w=.ok (.value v) w) (f:S w)
  (h:dN P md ops ZN S n k (l.setIfInBounds i ZF) (a.put b.dst v) w):dN P md ops ZN S n (k+1) l a w:=by
 rw[Array.getElem?_toList] at hi;exact xk hi (Region.noSelect_spec q) r m k l a w (Region.free_spec hi j) (by simpa using p) (.inl ⟨by simp[Region.wanted,o],g⟩) f h
def nxA:List Bool->Nat->Option Nat
 |[],_=>Y
 |true::l,j=>nxA l (j+1)
 |false::_,j=>T j
theorem aM (j:Nat){i:Nat}{f:Oper}{v:ZD}{k:Nat}{l:Array Bool}{a:Act}{w:G}(_:nxA (l.toList.drop j) j=T i)(hi:ops.toList[i]?=T f)(b:(Region.noSelect ops && Region.free md ops l i && (Region.ready md ops l).contains i && waitsFor md ops n i)=ZF)
  (p:∀c a w,ZN (.panic c) (a.put f.dst v) w->ZN (.panic c) a w) (o:f.guard=Y) (m:∀w,S w->(execOp a.eval f).run P w=.ok (.value v) w) (g:S w)
  (h:dN P md ops ZN S n k (l.setIfInBounds i ZF) (a.put f.dst v) w):dN P md ops ZN S n (k+1) l a w:=by
 simp only[Bool.and_eq_true] at b;exact iy hi b.1.1.1 b.1.1.2 b.1.2 b.2 p o m g h
theorem ah {i:Nat}{o:Oper}{k:Nat}{l:Array Bool}{a:Act}{w:G}(f:ops.toList[i]?=T o)(g:Region.ready md ops l=[i])
  (h:∀b:Act->G->Prop,Shut (∀a w,(i≠n->S w)->dN P md ops ZN S n k (l.setIfInBounds i ZF) a w->b a w)->if Region.wanted o (yielded ops a.tmps)=ZF then Oper.wp P o a w b ZN else b (a.put o.dst undef) w) :
  dN P md ops ZN S n (k+1) l a w:=by
 rw[Array.getElem?_toList] at f;refine⟨λe=>absurd e (by rw[g];exact List.cons_ne_nil _ _),λj m=>?_⟩;rw[g] at m;obtain rfl:=List.mem_singleton.1 m;exact wpOp_step f λb r=>h b λa w q p=>r a w ⟨q,p⟩
theorem bY (j:Nat){i:Nat}{o:Oper}{k:Nat}{l:Array Bool}{a:Act}{w:G}(_:nxA (l.toList.drop j) j=T i)(f:ops.toList[i]?=T o)(g:Region.ready md ops l=[i])
  (h:∀b:Act->G->Prop,Shut (∀a w,(i≠n->S w)->dN P md ops ZN S n k (l.setIfInBounds i ZF) a w->b a w)->if Region.wanted o (yielded ops a.tmps)=ZF then Oper.wp P o a w b ZN else b (a.put o.dst undef) w) :
  dN P md ops ZN S n (k+1) l a w:=ah f g h
theorem bk {l:Array Bool}{a:Act}{w:G}(b:Region.ready md ops l=[])(h:ZN .normal a w)(k:Nat):dN P md ops ZN S n k l a w:=by
 cases k with
 |zero=>exact⟨b,h⟩
 |succ k=>exact⟨λ_=>h,by rw[b];intro i hi;cases hi⟩
theorem aD {id:Nat}{a:Act}{w:G}(S:G->Prop)(n:Nat)(b:P.follows .mixedOrders=ZF)(h:dN P .any ops ZN S n ops.size (Array.replicate ops.size ZB) a w.drew):(Code.region id ops ZF).wp P ZN a w :=
 wp_region_any b (sK _ _ _ _ h)
end
end Go.Proofs.YthkpcehepgmdgaaGreatDoor.Ca
namespace Go.Proofs.YthkpcehepgmdgaaGreatDoor.Vp
section
variable {P:Program}{ops:Array Oper}{ZN:Exit->Act->G->Prop}{md:Region.Mode}{S:G->Prop}
theorem zd {i:Nat}{b:Oper}{v:ZD}{k:Nat}{l:Array Bool}{a:Act}{w:G}(hi:ops.toList[i]?=T b)(o:Region.noSelect ops=ZF)(j:Region.free md ops l i=ZF)(n:(Region.ready md ops l).contains i=ZF)
  (p:∀c a w,ZN (.panic c) (a.put b.dst v) w->ZN (.panic c) a w) (m:Region.wanted b (yielded ops a.tmps)=ZF) (g:∀w,S w->(execOp a.eval b).run P w=.ok (.value v) w) (f:S w)
  (h:wpAnyH P md ops ZN S k (l.setIfInBounds i ZF) (a.put b.dst v) w):wpAnyH P md ops ZN S (k+1) l a w:=by
 rw[Array.getElem?_toList] at hi;exact wpAnyH_take hi o j n p (.inl ⟨m,λw f=>g w f⟩) f h
def nxS:List Bool->Nat->Option Nat
 |[],_=>Y
 |true::l,j=>nxS l (j+1)
 |false::_,j=>T j
theorem aW (j:Nat){i:Nat}{b:Oper}{v:ZD}{k:Nat}{l:Array Bool}{a:Act}{w:G}(_:nxS (l.toList.drop j) j=T i)(hi:ops.toList[i]?=T b)(f:(Region.noSelect ops && Region.free md ops l i && (Region.ready md ops l).contains i)=ZF)
  (o:∀c a w,ZN (.panic c) (a.put b.dst v) w->ZN (.panic c) a w) (n:Region.wanted b (yielded ops a.tmps)=ZF) (m:∀w,S w->(execOp a.eval b).run P w=.ok (.value v) w) (g:S w)
  (h:wpAnyH P md ops ZN S k (l.setIfInBounds i ZF) (a.put b.dst v) w):wpAnyH P md ops ZN S (k+1) l a w:=by
 simp only[Bool.and_eq_true] at f;exact zd hi f.1.1 f.1.2 f.2 o n m g h
theorem aS {i:Nat}{o:Oper}{k:Nat}{l:Array Bool}{a:Act}{w:G}(f:ops.toList[i]?=T o)(g:Region.ready md ops l=[i])
  (h:∀b:Act->G->Prop,Shut (∀a w,S w->wpAnyH P md ops ZN S k (l.setIfInBounds i ZF) a w->b a w)->if Region.wanted o (yielded ops a.tmps)=ZF then Oper.wp P o a w b ZN else b (a.put o.dst undef) w) :
  wpAnyH P md ops ZN S (k+1) l a w:=by
 rw[Array.getElem?_toList] at f;exact wpAnyH_ready g (List.cons_ne_nil _ _) (AllReadyH.cons f (λb n=>h b (λa w m j=>n a w m (λ_=>j))) AllReadyH.nil)
theorem gn (j:Nat){i:Nat}{o:Oper}{k:Nat}{l:Array Bool}{a:Act}{w:G}(_:nxS (l.toList.drop j) j=T i)(f:ops.toList[i]?=T o)(g:Region.ready md ops l=[i])
  (h:∀b:Act->G->Prop,Shut (∀a w,S w->wpAnyH P md ops ZN S k (l.setIfInBounds i ZF) a w->b a w)->if Region.wanted o (yielded ops a.tmps)=ZF then Oper.wp P o a w b ZN else b (a.put o.dst undef) w) :
  wpAnyH P md ops ZN S (k+1) l a w:=aS f g h
end
end Go.Proofs.YthkpcehepgmdgaaGreatDoor.Vp
namespace Go.Proofs.YthkpcehepgmdgaaGreatDoor.Ca
section
variable {P:Program}{ops:Array Oper}{ZN:Exit->Act->G->Prop}{md:Region.Mode}{S:G->Prop}{n:Nat}
theorem oe {i j:Nat}{h g:Oper}{k:Nat}{l:Array Bool}{a:Act}{w:G}(hi:ops.toList[i]?=T h)(s:ops.toList[j]?=T g)(r:Region.ready md ops l=[i,j])
  (h1:∀b:Act->G->Prop,Shut (∀a w,(i≠n->S w)->dN P md ops ZN S n k (l.setIfInBounds i ZF) a w->b a w)->if Region.wanted h (yielded ops a.tmps)=ZF then Oper.wp P h a w b ZN else b (a.put h.dst undef) w)
  (h2:∀b:Act->G->Prop,Shut (∀a w,(j≠n->S w)->dN P md ops ZN S n k (l.setIfInBounds j ZF) a w->b a w)->if Region.wanted g (yielded ops a.tmps)=ZF then Oper.wp P g a w b ZN else b (a.put g.dst undef) w) :
  dN P md ops ZN S n (k+1) l a w:=by
 rw[Array.getElem?_toList] at hi s;refine⟨λe=>absurd e (by rw[r];exact List.cons_ne_nil _ _),λm f=>?_⟩;rw[r] at f;rcases List.mem_cons.1 f with rfl|f;{exact wpOp_step hi λb p=>h1 b λa w o q=>p a w ⟨o,q⟩};{obtain rfl:=List.mem_singleton.1 f;exact wpOp_step s λb p=>h2 b λa w o q=>p a w ⟨o,q⟩}
end
end Go.Proofs.YthkpcehepgmdgaaGreatDoor.Ca
namespace Go.Proofs.YthkpcehepgmdgaaGreatDoor.Vp
section
variable {P:Program}{ops:Array Oper}{ZN:Exit->Act->G->Prop}{md:Region.Mode}{S:G->Prop}
theorem cQ {i j:Nat}{g f:Oper}{k:Nat}{l:Array Bool}{a:Act}{w:G}(hi:ops.toList[i]?=T g)(o:ops.toList[j]?=T f)(p:Region.ready md ops l=[i,j])
  (h1:∀b:Act->G->Prop,Shut (∀a w,S w->wpAnyH P md ops ZN S k (l.setIfInBounds i ZF) a w->b a w)->if Region.wanted g (yielded ops a.tmps)=ZF then Oper.wp P g a w b ZN else b (a.put g.dst undef) w)
  (h2:∀b:Act->G->Prop,Shut (∀a w,S w->wpAnyH P md ops ZN S k (l.setIfInBounds j ZF) a w->b a w)->if Region.wanted f (yielded ops a.tmps)=ZF then Oper.wp P f a w b ZN else b (a.put f.dst undef) w) :
  wpAnyH P md ops ZN S (k+1) l a w:=by
 rw[Array.getElem?_toList] at hi o;exact wpAnyH_ready p (List.cons_ne_nil _ _) (AllReadyH.cons hi (λb m=>h1 b (λa w h n=>m a w h (λ_=>n))) (AllReadyH.cons o (λb m=>h2 b (λa w h n=>m a w h (λ_=>n))) AllReadyH.nil))
theorem xm {i j m:Nat}{p n o:Oper}{k:Nat}{l:Array Bool}{a:Act}{w:G}(hi:ops.toList[i]?=T p)(r:ops.toList[j]?=T n)(q:ops.toList[m]?=T o)(t:Region.ready md ops l=[i,j,m])
  (h1:∀b:Act->G->Prop,Shut (∀a w,S w->wpAnyH P md ops ZN S k (l.setIfInBounds i ZF) a w->b a w)->if Region.wanted p (yielded ops a.tmps)=ZF then Oper.wp P p a w b ZN else b (a.put p.dst undef) w)
  (h2:∀b:Act->G->Prop,Shut (∀a w,S w->wpAnyH P md ops ZN S k (l.setIfInBounds j ZF) a w->b a w)->if Region.wanted n (yielded ops a.tmps)=ZF then Oper.wp P n a w b ZN else b (a.put n.dst undef) w)
  (s:∀b:Act->G->Prop,Shut (∀a w,S w->wpAnyH P md ops ZN S k (l.setIfInBounds m ZF) a w->b a w)->if Region.wanted o (yielded ops a.tmps)=ZF then Oper.wp P o a w b ZN else b (a.put o.dst undef) w) :
  wpAnyH P md ops ZN S (k+1) l a w:=by
 rw[Array.getElem?_toList] at hi r q;exact wpAnyH_ready t (List.cons_ne_nil _ _) (AllReadyH.cons hi (λb g=>h1 b (λa w f h=>g a w f (λ_=>h))) (AllReadyH.cons r (λb g=>h2 b (λa w f h=>g a w f (λ_=>h))) (AllReadyH.cons q (λb g=>s b (λa w f h=>g a w f (λ_=>h))) AllReadyH.nil)))
end
