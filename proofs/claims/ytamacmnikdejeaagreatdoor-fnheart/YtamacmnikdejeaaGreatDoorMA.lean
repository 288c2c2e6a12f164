import Derived.Deep.RegionHeld
open Option renaming none->Z,some->T
open Go renaming World->E,Value->ZB
open Bool renaming false->ZA,true->ZD
namespace Go.Proofs.YtamacmnikdejeaaGreatDoor.Vp
section
variable {P:Program}{ops:Array Oper}{ZM:Exit->Act->E->Prop}{md:Region.Mode}{S:E->Prop}
theorem yZ {i:Nat}{b:Oper}{v:ZB}{k:Nat}{l:Array Bool}{a:Act}{w:E}(hi:ops.toList[i]?=T b)(n:Region.noSelect ops=ZD)(o:Region.free md ops l i=ZD)(j:(Region.ready md ops l).contains i=ZD)
  (m:∀c a w,ZM (.panic c) (a.put b.dst v) w->ZM (.panic c) a w) (g:Region.wanted b (yielded ops a.tmps)=ZD) (p:∀w,S w->(execOp a.eval b).run P w=.ok (.value v) w) (f:S w)
  (h:wpAnyH P md ops ZM S k (l.setIfInBounds i ZD) (a.put b.dst v) w):wpAnyH P md ops ZM S (k+1) l a w:=by
 rw[Array.getElem?_toList] at hi;exact wpAnyH_take hi n o j m (.inl ⟨g,λw f=>p w f⟩) f h
def nxS:List Bool->Nat->Option Nat
 |[],_=>Z
 |true::l,j=>nxS l (j+1)
 |false::_,j=>T j
theorem ba (j:Nat){i:Nat}{b:Oper}{v:ZB}{k:Nat}{l:Array Bool}{a:Act}{w:E}(_:nxS (l.toList.drop j) j=T i)(hi:ops.toList[i]?=T b)(f:(Region.noSelect ops && Region.free md ops l i && (Region.ready md ops l).contains i)=ZD)
  (m:∀c a w,ZM (.panic c) (a.put b.dst v) w->ZM (.panic c) a w) (g:Region.wanted b (yielded ops a.tmps)=ZD) (n:∀w,S w->(execOp a.eval b).run P w=.ok (.value v) w) (o:S w)
  (h:wpAnyH P md ops ZM S k (l.setIfInBounds i ZD) (a.put b.dst v) w):wpAnyH P md ops ZM S (k+1) l a w:=by
 simp only[Bool.and_eq_true] at f;exact yZ hi f.1.1 f.1.2 f.2 m g n o h
theorem aN {i:Nat}{o:Oper}{k:Nat}{l:Array Bool}{a:Act}{w:E}(f:ops.toList[i]?=T o)(g:Region.ready md ops l=[i])
  (h:∀b:Act->E->Prop,Shut (∀a w,S w->wpAnyH P md ops ZM S k (l.setIfInBounds i ZD) a w->b a w)->if Region.wanted o (yielded ops a.tmps)=ZD then Oper.wp P o a w b ZM else b (a.put o.dst undef) w) :
  wpAnyH P md ops ZM S (k+1) l a w:=by
 rw[Array.getElem?_toList] at f;exact wpAnyH_ready g (List.cons_ne_nil _ _) (AllReadyH.cons f (λb j=>h b (λa w m n=>j a w m (λ_=>n))) AllReadyH.nil)
theorem qe (j:Nat){i:Nat}{o:Oper}{k:Nat}{l:Array Bool}{a:Act}{w:E}(_:nxS (l.toList.drop j) j=T i)(g:ops.toList[i]?=T o)(f:Region.ready md ops l=[i])
  (h:∀b:Act->E->Prop,Shut (∀a w,S w->wpAnyH P md ops ZM S k (l.setIfInBounds i ZD) a w->b a w)->if Region.wanted o (yielded ops a.tmps)=ZD then Oper.wp P o a w b ZM else b (a.put o.dst undef) w) :
  wpAnyH P md ops ZM S (k+1) l a w:=aN g f h
end
end Go.Proofs.YtamacmnikdejeaaGreatDoor.Vp
namespace Go.Proofs.YtamacmnikdejeaaGreatDoor.Ca
section
variable {P:Program}{ops:Array Oper}{ZM:Exit->Act->E->Prop}{md:Region.Mode}{S:E->Prop}{n:Nat}
def dD (P:Program)(md:Region.Mode)(ops:Array Oper)(ZM:Exit->Act->E->Prop)(S:E->Prop)(n:Nat):Nat->Array Bool->Act->E->Prop
 |0,l,a,w=>Region.ready md ops l=[]/\ZM .normal a w
 |k+1,l,a,w=>(Region.ready md ops l=[]->ZM .normal a w)/\∀i∈Region.ready md ops l,wpOp P ops ZM i (λf b=>(i≠n->S b)/\dD P md ops ZM S n k (l.setIfInBounds i ZD) f b) a w
theorem sU:∀(k:Nat) (l:Array Bool) (a:Act) (w:E),dD P md ops ZM S n k l a w->wpAny P md ops ZM k l a w
 |0,_,_,_,h=>h
 |k+1,_,_,_,h=>⟨h.1,λi hi=>wpOp_mono (λb f x=>sU k _ b f x.2) (h.2 i hi)⟩
def waitsFor (md:Region.Mode)(ops:Array Oper)(n i:Nat):Bool:=match ops[n]? with
 |some o=>o.after.any λe=>Region.binds md e && e.on == i
 |none=>ZA
theorem zb {i:Nat}{o:Oper}(h:waitsFor md ops n i=ZD)(f:ops[n]?=T o)(hn:∀e∈o.after,Region.binds md e=ZD->e.on≠i):False:=by unfold waitsFor at h;simp only[f] at h;obtain⟨e,b,h2⟩:=Array.any_eq_true'.1 h;simp only[Bool.and_eq_true,beq_iff_eq] at h2;exact hn e b h2.1 h2.2
theorem xm {i:Nat}{p:Oper}{v:ZB}(hi:ops[i]?=T p)(r:∀(j:Nat) (o:Oper) t b,ops[j]?=T o->o.op≠.select t b)(ZN:∀c a w,ZM (.panic c) (a.put p.dst v) w->ZM (.panic c) a w)(O:waitsFor md ops n i=ZD):∀(k:Nat) (l:Array Bool) (a:Act) (w:E),(∀j g,ops[j]?=T g->j≠i->l.getD j ZD=ZA->(∀e∈g.after,Region.binds md e=ZD->e.on≠i)->p.apart ops g=ZD) ->
   i∈Region.ready md ops l->YieldsIf P ops S p v a->S w->dD P md ops ZM S n k (l.setIfInBounds i ZD) (a.put p.dst v) w->dD P md ops ZM S n (k+1) l a w:=by
 intro k;induction k with
 |zero =>
  intro l a w _ q y s H;refine⟨λe=>absurd q (by rw[e];exact List.not_mem_nil),λj u=>?_⟩;rcases Decidable.em (j=i) with rfl|f;{exact y.wpOp hi s ⟨λ_=>s,H⟩};{exact absurd (ready_mono u f) (by rw[H.1];exact List.not_mem_nil)}
 |succ k ZK =>
  intro l a w ZQ q y s H;refine⟨λe=>absurd q (by rw[e];exact List.not_mem_nil),λj u=>?_⟩;rcases Decidable.em (j=i) with rfl|f;{exact y.wpOp hi s ⟨λ_=>s,H⟩};{obtain⟨K,g,h,C⟩:=mem_ready.1 u;have z:∀e∈g.after,Region.binds md e=ZD->e.on≠i:=λe ZL hb x=>(by have h1:=C e ZL hb;have L:=(mem_ready.1 q).1;rw[x] at h1;rcases Nat.lt_or_ge i l.size with B|B;{simp[B] at L h1;rw[L] at h1;cases h1};{simp[Array.getElem?_eq_none B] at h1});have A:j≠n:=λe=>zb O (e ▸ h) z;refine wpOp_mono (λM W x=>⟨λ_=>x.2.1 A,ZK _ M W (λm V R D G ZP=>ZQ m V R D ?_ ZP) (ready_mono q (Ne.symm f)) x.1 (x.2.1 A) ?_⟩) (wpOp_putIf h (ZQ j g h f K z) (λt b=>r i p t b hi) (λt b=>r j g t b h) ZN y (H.2 j (ready_mono u f)));{rcases Decidable.em (j=m) with rfl|ZO;{exact K};{rwa[getD_set_ne ZD ZO] at G}};{rw[Array.setIfInBounds_comm _ _ f];exact x.2.2}}
theorem fu {i:Nat}{b:Oper}{v:ZB}{k:Nat}{l:Array Bool}{a:Act}{w:E}(hi:ops.toList[i]?=T b)(o:Region.noSelect ops=ZD)(p:Region.free md ops l i=ZD)(g:(Region.ready md ops l).contains i=ZD)(m:waitsFor md ops n i=ZD)
  (j:∀c a w,ZM (.panic c) (a.put b.dst v) w->ZM (.panic c) a w) (f:b.guard=Z) (q:∀w,S w->(execOp a.eval b).run P w=.ok (.value v) w) (r:S w)
  (h:dD P md ops ZM S n k (l.setIfInBounds i ZD) (a.put b.dst v) w):dD P md ops ZM S n (k+1) l a w:=by
 rw[Array.getElem?_toList] at hi;exact xm hi (Region.noSelect_spec o) j m k l a w (Region.free_spec hi p) (by simpa using g) (.inl ⟨by simp[Region.wanted,f],q⟩) r h
def nxA:List Bool->Nat->Option Nat
 |[],_=>Z
 |true::l,j=>nxA l (j+1)
 |false::_,j=>T j
theorem aK (j:Nat){i:Nat}{f:Oper}{v:ZB}{k:Nat}{l:Array Bool}{a:Act}{w:E}(_:nxA (l.toList.drop j) j=T i)(hi:ops.toList[i]?=T f)(b:(Region.noSelect ops && Region.free md ops l i && (Region.ready md ops l).contains i && waitsFor md ops n i)=ZD)
  (m:∀c a w,ZM (.panic c) (a.put f.dst v) w->ZM (.panic c) a w) (g:f.guard=Z) (o:∀w,S w->(execOp a.eval f).run P w=.ok (.value v) w) (p:S w)
  (h:dD P md ops ZM S n k (l.setIfInBounds i ZD) (a.put f.dst v) w):dD P md ops ZM S n (k+1) l a w:=by
 simp only[Bool.and_eq_true] at b;exact fu hi b.1.1.1 b.1.1.2 b.1.2 b.2 m g o p h
theorem aj {i:Nat}{o:Oper}{k:Nat}{l:Array Bool}{a:Act}{w:E}(g:ops.toList[i]?=T o)(f:Region.ready md ops l=[i])
  (h:∀b:Act->E->Prop,Shut (∀a w,(i≠n->S w)->dD P md ops ZM S n k (l.setIfInBounds i ZD) a w->b a w)->if Region.wanted o (yielded ops a.tmps)=ZD then Oper.wp P o a w b ZM else b (a.put o.dst undef) w) :
  dD P md ops ZM S n (k+1) l a w:=by
 rw[Array.getElem?_toList] at g;refine⟨λe=>absurd e (by rw[f];exact List.cons_ne_nil _ _),λj m=>?_⟩;rw[f] at m;obtain rfl:=List.mem_singleton.1 m;exact wpOp_step g λb p=>h b λa w q r=>p a w ⟨q,r⟩
theorem bU (j:Nat){i:Nat}{o:Oper}{k:Nat}{l:Array Bool}{a:Act}{w:E}(_:nxA (l.toList.drop j) j=T i)(g:ops.toList[i]?=T o)(f:Region.ready md ops l=[i])
  (h:∀b:Act->E->Prop,Shut (∀a w,(i≠n->S w)->dD P md ops ZM S n k (l.setIfInBounds i ZD) a w->b a w)->if Region.wanted o (yielded ops a.tmps)=ZD then Oper.wp P o a w b ZM else b (a.put o.dst undef) w) :
  dD P md ops ZM S n (k+1) l a w:=aj g f h
theorem be {l:Array Bool}{a:Act}{w:E}(b:Region.ready md ops l=[])(h:ZM .normal a w)(k:Nat):dD P md ops ZM S n k l a w:=by
 cases k with
 |zero=>exact⟨b,h⟩
 |succ k=>exact⟨λ_=>h,by rw[b];intro i hi;cases hi⟩
theorem aH {id:Nat}{a:Act}{w:E}(S:E->Prop)(n:Nat)(b:P.follows .mixedOrders=ZD)(h:dD P .any ops ZM S n ops.size (Array.replicate ops.size ZA) a w.drew):(Code.region id ops ZD).wp P ZM a w :=
 wp_region_any b (sU _ _ _ _ h)
end
section
variable {P:Program}{ops:Array Oper}{ZM:Exit->Act->E->Prop}{md:Region.Mode}{S:E->Prop}{n:Nat}
theorem od {i j:Nat}{h f:Oper}{k:Nat}{l:Array Bool}{a:Act}{w:E}(hi:ops.toList[i]?=T h)(s:ops.toList[j]?=T f)(r:Region.ready md ops l=[i,j])
  (h1:∀b:Act->E->Prop,Shut (∀a w,(i≠n->S w)->dD P md ops ZM S n k (l.setIfInBounds i ZD) a w->b a w)->if Region.wanted h (yielded ops a.tmps)=ZD then Oper.wp P h a w b ZM else b (a.put h.dst undef) w)
  (h2:∀b:Act->E->Prop,Shut (∀a w,(j≠n->S w)->dD P md ops ZM S n k (l.setIfInBounds j ZD) a w->b a w)->if Region.wanted f (yielded ops a.tmps)=ZD then Oper.wp P f a w b ZM else b (a.put f.dst undef) w) :
  dD P md ops ZM S n (k+1) l a w:=by
 rw[Array.getElem?_toList] at hi s;refine⟨λe=>absurd e (by rw[r];exact List.cons_ne_nil _ _),λm g=>?_⟩;rw[r] at g;rcases List.mem_cons.1 g with rfl|g;{exact wpOp_step hi λb o=>h1 b λa w p q=>o a w ⟨p,q⟩};{obtain rfl:=List.mem_singleton.1 g;exact wpOp_step s λb o=>h2 b λa w p q=>o a w ⟨p,q⟩}
end
end Go.Proofs.YtamacmnikdejeaaGreatDoor.Ca
namespace Go.Proofs.YtamacmnikdejeaaGreatDoor.Vp
section
variable {P:Program}{ops:Array Oper}{ZM:Exit->Act->E->Prop}{md:Region.Mode}{S:E->Prop}
theorem iY {i j:Nat}{g f:Oper}{k:Nat}{l:Array Bool}{a:Act}{w:E}(hi:ops.toList[i]?=T g)(o:ops.toList[j]?=T f)(p:Region.ready md ops l=[i,j])
  (h1:∀b:Act->E->Prop,Shut (∀a w,S w->wpAnyH P md ops ZM S k (l.setIfInBounds i ZD) a w->b a w)->if Region.wanted g (yielded ops a.tmps)=ZD then Oper.wp P g a w b ZM else b (a.put g.dst undef) w)
  (h2:∀b:Act->E->Prop,Shut (∀a w,S w->wpAnyH P md ops ZM S k (l.setIfInBounds j ZD) a w->b a w)->if Region.wanted f (yielded ops a.tmps)=ZD then Oper.wp P f a w b ZM else b (a.put f.dst undef) w) :
  wpAnyH P md ops ZM S (k+1) l a w:=by
 rw[Array.getElem?_toList] at hi o;exact wpAnyH_ready p (List.cons_ne_nil _ _) (AllReadyH.cons hi (λb h=>h1 b (λa w m n=>h a w m (λ_=>n))) (AllReadyH.cons o (λb h=>h2 b (λa w m n=>h a w m (λ_=>n))) AllReadyH.nil))
theorem o8 {i j m:Nat}{o n p:Oper}{k:Nat}{l:Array Bool}{a:Act}{w:E}(hi:ops.toList[i]?=T o)(q:ops.toList[j]?=T n)(r:ops.toList[m]?=T p)(s:Region.ready md ops l=[i,j,m])
  (h1:∀b:Act->E->Prop,Shut (∀a w,S w->wpAnyH P md ops ZM S k (l.setIfInBounds i ZD) a w->b a w)->if Region.wanted o (yielded ops a.tmps)=ZD then Oper.wp P o a w b ZM else b (a.put o.dst undef) w)
  (h2:∀b:Act->E->Prop,Shut (∀a w,S w->wpAnyH P md ops ZM S k (l.setIfInBounds j ZD) a w->b a w)->if Region.wanted n (yielded ops a.tmps)=ZD then Oper.wp P n a w b ZM else b (a.put n.dst undef) w)
  (t:∀b:Act->E->Prop,Shut (∀a w,S w->wpAnyH P md ops ZM S k (l.setIfInBounds m ZD) a w->b a w)->if Region.wanted p (yielded ops a.tmps)=ZD then Oper.wp P p a w b ZM else b (a.put p.dst undef) w) :
  wpAnyH P md ops ZM S (k+1) l a w:=by
 rw[Array.getElem?_toList] at hi q r;exact wpAnyH_ready s (List.cons_ne_nil _ _) (AllReadyH.cons hi (λb f=>h1 b (λa w g h=>f a w g (λ_=>h))) (AllReadyH.cons q (λb f=>h2 b (λa w g h=>f a w g (λ_=>h))) (AllReadyH.cons r (λb f=>t b (λa w g h=>f a w g (λ_=>h))) AllReadyH.nil)))
end
