import Derived.Test.YtoddkejemcbkmaaGreatDoorRZ
import Derived.Deep.RegionHeld
set_option maxRecDepth 100000
set_option maxHeartbeats 8000000
set_option linter.unusedSimpArgs false
open Go renaming Addr.mk->Q,Value.slice->Z,Value.string->U,Value.int->J,Obj.cells->N,IntKind.i64->I,World->M,Value->ZC,Ending.returned->ZF
open Option renaming none->Y,some->T
open Bool renaming false->ZA,true->ZG
namespace Go.Proofs.YtoddkejemcbkmaaGreatDoor.Vp
section
variable {P:Program}{ops:Array Oper}{ZM:Exit->Act->M->Prop}{md:Region.Mode}{S:M->Prop}
theorem AE {i:Nat}{b:Oper}{v:ZC}{k:Nat}{l:Array Bool}{a:Act}{w:M}(hi:ops.toList[i]?=T b)(m:Region.noSelect ops=ZG)(p:Region.free md ops l i=ZG)(n:(Region.ready md ops l).contains i=ZG)
  (j:∀c a w,ZM (.panic c) (a.put b.dst v) w->ZM (.panic c) a w) (g:Region.wanted b (yielded ops a.tmps)=ZG) (o:∀w,S w->(execOp a.eval b).run P w=.ok (.value v) w) (f:S w)
  (h:wpAnyH P md ops ZM S k (l.setIfInBounds i ZG) (a.put b.dst v) w):wpAnyH P md ops ZM S (k+1) l a w:=by
 rw[NJ] at hi;exact wpAnyH_take hi m p n j (.inl ⟨g,λw f=>o w f⟩) f h
def nxS:List Bool->Nat->Option Nat
 |[],_=>Y
 |true::l,j=>nxS l (j+1)
 |false::_,j=>T j
theorem cK (j:Nat){i:Nat}{b:Oper}{v:ZC}{k:Nat}{l:Array Bool}{a:Act}{w:M}(_:nxS (l.toList.drop j) j=T i)(hi:ops.toList[i]?=T b)(f:(Region.noSelect ops && Region.free md ops l i && (Region.ready md ops l).contains i)=ZG)
  (n:∀c a w,ZM (.panic c) (a.put b.dst v) w->ZM (.panic c) a w) (g:Region.wanted b (yielded ops a.tmps)=ZG) (o:∀w,S w->(execOp a.eval b).run P w=.ok (.value v) w) (m:S w)
  (h:wpAnyH P md ops ZM S k (l.setIfInBounds i ZG) (a.put b.dst v) w):wpAnyH P md ops ZM S (k+1) l a w:=by
 simp only[zA] at f;exact AE hi f.1.1 f.1.2 f.2 n g o m h
theorem bB {i:Nat}{o:Oper}{k:Nat}{l:Array Bool}{a:Act}{w:M}(c:ops.toList[i]?=T o)(g:Region.ready md ops l=[i])
  (h:∀b:Act->M->Prop,Shut (∀a w,S w->wpAnyH P md ops ZM S k (l.setIfInBounds i ZG) a w->b a w)->if Region.wanted o (yielded ops a.tmps)=ZG then Oper.wp P o a w b ZM else b (a.put o.dst undef) w) :
  wpAnyH P md ops ZM S (k+1) l a w:=by
 rw[NJ] at c;exact wpAnyH_ready g (List.cons_ne_nil _ _) (AllReadyH.cons c (λb j=>h b (λa w f m=>j a w f (λ_=>m))) AllReadyH.nil)
theorem xr (j:Nat){i:Nat}{o:Oper}{k:Nat}{l:Array Bool}{a:Act}{w:M}(_:nxS (l.toList.drop j) j=T i)(f:ops.toList[i]?=T o)(c:Region.ready md ops l=[i])
  (h:∀b:Act->M->Prop,Shut (∀a w,S w->wpAnyH P md ops ZM S k (l.setIfInBounds i ZG) a w->b a w)->if Region.wanted o (yielded ops a.tmps)=ZG then Oper.wp P o a w b ZM else b (a.put o.dst undef) w) :
  wpAnyH P md ops ZM S (k+1) l a w:=bB f c h
end
end Go.Proofs.YtoddkejemcbkmaaGreatDoor.Vp
namespace Go.Proofs.YtoddkejemcbkmaaGreatDoor.Ca
open Vp
section
variable {P:Program}{ops:Array Oper}{ZM:Exit->Act->M->Prop}{md:Region.Mode}{S:M->Prop}{n:Nat}
def dU (P:Program)(md:Region.Mode)(ops:Array Oper)(ZM:Exit->Act->M->Prop)(S:M->Prop)(n:Nat):Nat->Array Bool->Act->M->Prop
 |0,l,a,w=>Region.ready md ops l=[]/\ZM .normal a w
 |k+1,l,a,w=>(Region.ready md ops l=[]->ZM .normal a w)/\∀i∈Region.ready md ops l,wpOp P ops ZM i (λc b=>(i≠n->S b)/\dU P md ops ZM S n k (l.setIfInBounds i ZG) c b) a w
theorem ud:∀(k:Nat) (l:Array Bool) (a:Act) (w:M),dU P md ops ZM S n k l a w->wpAny P md ops ZM k l a w
 |0,_,_,_,h=>h
 |k+1,_,_,_,h=>⟨h.1,λi hi=>wpOp_mono (λb c x=>ud k _ b c x.2) (h.2 i hi)⟩
def waitsFor (md:Region.Mode)(ops:Array Oper)(n i:Nat):Bool:=match ops[n]? with
 |some o=>o.after.any λe=>Region.binds md e && e.on == i
 |none=>ZA
theorem AG {i:Nat}{o:Oper}(h:waitsFor md ops n i=ZG)(b:ops[n]?=T o)(hn:∀e∈o.after,Region.binds md e=ZG->e.on≠i):False:=by unfold waitsFor at h;simp only[b] at h;obtain⟨e,c,h2⟩:=Array.any_eq_true'.1 h;simp only[Bool.and_eq_true,beq_iff_eq] at h2;exact hn e c h2.1 h2.2
theorem yI {i:Nat}{p:Oper}{v:ZC}(hi:ops[i]?=T p)(s:∀(j:Nat) (o:Oper) t b,ops[j]?=T o->o.op≠.select t b)(L:∀c a w,ZM (.panic c) (a.put p.dst v) w->ZM (.panic c) a w)(ZQ:waitsFor md ops n i=ZG):∀(k:Nat) (l:Array Bool) (a:Act) (w:M),(∀j g,ops[j]?=T g->j≠i->l.getD j ZG=ZA->(∀e∈g.after,Region.binds md e=ZG->e.on≠i)->p.apart ops g=ZG) ->
   i∈Region.ready md ops l->YieldsIf P ops S p v a->S w->dU P md ops ZM S n k (l.setIfInBounds i ZG) (a.put p.dst v) w->dU P md ops ZM S n (k+1) l a w:=by
 intro k;induction k with
 |zero =>
  intro l a w _ r u q H;refine⟨λe=>absurd r (by rw[e];exact nj),λj y=>?_⟩;rcases Decidable.em (j=i) with rfl|f;{exact u.wpOp hi q ⟨λ_=>q,H⟩};{exact absurd (ready_mono y f) (by rw[H.1];exact nj)}
 |succ k ZL =>
  intro l a w K r u q H;refine⟨λe=>absurd r (by rw[e];exact nj),λj y=>?_⟩;rcases Decidable.em (j=i) with rfl|f;{exact u.wpOp hi q ⟨λ_=>q,H⟩};{obtain⟨ZO,g,h,C⟩:=mem_ready.1 y;have z:∀e∈g.after,Region.binds md e=ZG->e.on≠i:=λe R hb x=>(by have h1:=C e R hb;have F:=(mem_ready.1 r).1;rw[x] at h1;rcases Nat.lt_or_ge i l.size with B|B;{simp[B] at F h1;rw[F] at h1;cases h1};{simp[Array.getElem?_eq_none B] at h1});have A:j≠n:=λe=>AG ZQ (e ▸ h) z;refine wpOp_mono (λZN O x=>⟨λ_=>x.2.1 A,ZL _ ZN O (λm ZK V ZP G E=>K m ZK V ZP ?_ E) (ready_mono r (Ne.symm f)) x.1 (x.2.1 A) ?_⟩) (wpOp_putIf h (K j g h f ZO z) (λt b=>s i p t b hi) (λt b=>s j g t b h) L u (H.2 j (ready_mono y f)));{rcases Decidable.em (j=m) with rfl|D;{exact ZO};{rwa[getD_set_ne ZG D] at G}};{rw[Array.setIfInBounds_comm _ _ f];exact x.2.2}}
theorem kf {i:Nat}{b:Oper}{v:ZC}{k:Nat}{l:Array Bool}{a:Act}{w:M}(hi:ops.toList[i]?=T b)(m:Region.noSelect ops=ZG)(r:Region.free md ops l i=ZG)(o:(Region.ready md ops l).contains i=ZG)(q:waitsFor md ops n i=ZG)
  (j:∀c a w,ZM (.panic c) (a.put b.dst v) w->ZM (.panic c) a w) (f:b.guard=Y) (p:∀w,S w->(execOp a.eval b).run P w=.ok (.value v) w) (g:S w)
  (h:dU P md ops ZM S n k (l.setIfInBounds i ZG) (a.put b.dst v) w):dU P md ops ZM S n (k+1) l a w:=by
 rw[Array.getElem?_toList] at hi;exact yI hi (Region.noSelect_spec m) j q k l a w (Region.free_spec hi r) (by simpa using o) (.inl ⟨by simp[Region.wanted,f],p⟩) g h
def nxA:List Bool->Nat->Option Nat
 |[],_=>Y
 |true::l,j=>nxA l (j+1)
 |false::_,j=>T j
theorem aI (j:Nat){i:Nat}{f:Oper}{v:ZC}{k:Nat}{l:Array Bool}{a:Act}{w:M}(_:nxA (l.toList.drop j) j=T i)(hi:ops.toList[i]?=T f)(b:(Region.noSelect ops && Region.free md ops l i && (Region.ready md ops l).contains i && waitsFor md ops n i)=ZG)
  (o:∀c a w,ZM (.panic c) (a.put f.dst v) w->ZM (.panic c) a w) (g:f.guard=Y) (p:∀w,S w->(execOp a.eval f).run P w=.ok (.value v) w) (m:S w)
  (h:dU P md ops ZM S n k (l.setIfInBounds i ZG) (a.put f.dst v) w):dU P md ops ZM S n (k+1) l a w:=by
 simp only[Bool.and_eq_true] at b;exact kf hi b.1.1.1 b.1.1.2 b.1.2 b.2 o g p m h
theorem ag {i:Nat}{o:Oper}{k:Nat}{l:Array Bool}{a:Act}{w:M}(g:ops.toList[i]?=T o)(f:Region.ready md ops l=[i])
  (h:∀b:Act->M->Prop,Shut (∀a w,(i≠n->S w)->dU P md ops ZM S n k (l.setIfInBounds i ZG) a w->b a w)->if Region.wanted o (yielded ops a.tmps)=ZG then Oper.wp P o a w b ZM else b (a.put o.dst undef) w) :
  dU P md ops ZM S n (k+1) l a w:=by
 rw[Array.getElem?_toList] at g;refine⟨λe=>absurd e (by rw[f];exact List.cons_ne_nil _ _),λj c=>?_⟩;rw[f] at c;obtain rfl:=List.mem_singleton.1 c;exact wpOp_step g λb p=>h b λa w m q=>p a w ⟨m,q⟩
theorem cB (j:Nat){i:Nat}{o:Oper}{k:Nat}{l:Array Bool}{a:Act}{w:M}(_:nxA (l.toList.drop j) j=T i)(f:ops.toList[i]?=T o)(c:Region.ready md ops l=[i])
  (h:∀b:Act->M->Prop,Shut (∀a w,(i≠n->S w)->dU P md ops ZM S n k (l.setIfInBounds i ZG) a w->b a w)->if Region.wanted o (yielded ops a.tmps)=ZG then Oper.wp P o a w b ZM else b (a.put o.dst undef) w) :
  dU P md ops ZM S n (k+1) l a w:=ag f c h
theorem aW {l:Array Bool}{a:Act}{w:M}(b:Region.ready md ops l=[])(h:ZM .normal a w)(k:Nat):dU P md ops ZM S n k l a w:=by
 cases k with
 |zero=>exact⟨b,h⟩
 |succ k=>exact⟨λ_=>h,by rw[b];intro i hi;cases hi⟩
theorem aE {id:Nat}{a:Act}{w:M}(S:M->Prop)(n:Nat)(b:P.follows .mixedOrders=ZG)(h:dU P .any ops ZM S n ops.size (Array.replicate ops.size ZA) a w.drew):(Code.region id ops ZG).wp P ZM a w :=
 wp_region_any b (ud _ _ _ _ h)
end
section
variable {P:Program}{ops:Array Oper}{ZM:Exit->Act->M->Prop}{md:Region.Mode}{S:M->Prop}{n:Nat}
theorem ue {i j:Nat}{g c:Oper}{k:Nat}{l:Array Bool}{a:Act}{w:M}(hi:ops.toList[i]?=T g)(q:ops.toList[j]?=T c)(r:Region.ready md ops l=[i,j])
  (h1:∀b:Act->M->Prop,Shut (∀a w,(i≠n->S w)->dU P md ops ZM S n k (l.setIfInBounds i ZG) a w->b a w)->if Region.wanted g (yielded ops a.tmps)=ZG then Oper.wp P g a w b ZM else b (a.put g.dst undef) w)
  (h2:∀b:Act->M->Prop,Shut (∀a w,(j≠n->S w)->dU P md ops ZM S n k (l.setIfInBounds j ZG) a w->b a w)->if Region.wanted c (yielded ops a.tmps)=ZG then Oper.wp P c a w b ZM else b (a.put c.dst undef) w) :
  dU P md ops ZM S n (k+1) l a w:=by
 rw[Array.getElem?_toList] at hi q;refine⟨λe=>absurd e (by rw[r];exact List.cons_ne_nil _ _),λm f=>?_⟩;rw[r] at f;rcases List.mem_cons.1 f with rfl|f;{exact wpOp_step hi λb o=>h1 b λa w h p=>o a w ⟨h,p⟩};{obtain rfl:=List.mem_singleton.1 f;exact wpOp_step q λb o=>h2 b λa w h p=>o a w ⟨h,p⟩}
end
end Go.Proofs.YtoddkejemcbkmaaGreatDoor.Ca
namespace Go.Proofs.YtoddkejemcbkmaaGreatDoor.Vp
open RowKit Ca
theorem fY (a0:Option Addr)(n0 c0:Nat)(f0:Nat->Source)(a1:Option Addr)(n1 c1:Nat)(f1:Nat->Target)(t:ByteArray)(w:M)(hn0:(n0:Int)<=1048576)(hn1:(n1:Int)<=1048576)(L:SlSource w a0 n0 f0)(ZQ:SlTarget w a1 n1 f1)(E:∀i,i<n1->cR (f1 i)):Calls Tryz.prog 120 #[.agg #[Z a0 n0 c0,Z a1 n1 c1],U t] w λe w'=>∃s r R,e=ZF (.agg #[s,r])/\w'.ownsRow (w.heap.size+3) 122 2 s (bW f0 t n0).length ((bW f0 t n0).flatMap bI)/\TRow w' (w.heap.size+3) r R/\R.map (·.1)=keepT f1 t n1/\Below w.heap.size w w':=by
 have V0:=ae L;have V1:=ae ZQ;have HF:=ae E;clear L ZQ E;obtain⟨At,hi,ro,ph,qr⟩:=LY lv;obtain⟨ld,hj,mv,X,bt⟩:=LY gO;have A0:=ae ((((q9 w).alloc ly (N #[Z a0 n0 c0,Z a1 n1 c1] 44)).alloc (by simp) (N #[Z Y 0 0,Z Y 0 0] 44)).alloc (by simp;omega) (N #[Z Y 0 0,Z Y 0 0] 44));have X0:=ae (AA w (Z a0 n0 c0) (Z a1 n1 c1) 44);go_enter Tryz.func120,Tryz.ntmps120;go_wp2;generalize ((w.alloc (N #[Z a0 n0 c0,Z a1 n1 c1] 44)).alloc (N #[Z Y 0 0,Z Y 0 0] 44)).alloc (N #[Z Y 0 0,Z Y 0 0] 44)=W at A0 X0 ⊢;go_loopw [6] (λi wr=>∃(k:Nat) (s:ZC),k<=n0/\i=J I k/\Hid (Boxes wr w.heap.size (Z a0 n0 c0) (Z a1 n1 c1) s (Z Y 0 0))/\Hid (wr.ownsRow (w.heap.size+3) 122 2 s (bW f0 t k).length ((bW f0 t k).flatMap bI))/\Hid (Below w.heap.size w wr)) (λi _=>n0 - (intOf i).toNat);case atStart=>exact⟨0,_,by omega,rfl,X0,AT _ _ _ _,A0⟩
 case round =>
  obtain⟨k,s,hk,rfl,f,D,q⟩:=hrel;have ZL:=f.lt;by_cases y:k<n0
  ·obtain⟨b,off,rfl,z⟩:=V0.resolve_left (by omega);obtain⟨ZK,ZJ⟩:=(z.2 k y).aa q z.1;clear z;have hll:=j9 f0 t k;have O:=f.a0;cases hq:((f0 k).e.toList == t.toList) with
   |true =>have C:=ae hq;go_wp2;exact⟨⟨k+1,s,by omega,by go_num,f,by show World.ownsRow _ _ _ _ _ _ _;rw[yD C.out];exact D,q⟩,by simp[intOf];omega⟩
   |false =>
    have C:=ae hq;obtain⟨x0,y0⟩:=f.o0;have u:=ae ((eL (w.heap.size+3) wr).drew.alloc (by simp;omega) (N #[U (f0 k).e,U (f0 k).h] 122));go_wp2_with fail
    go_region_law (first
     |(refine eF rfl (.tmp 25) (.tmp 31) 41 rfl (w.heap.size+3) 122 At (.agg #[U ⟨#[]⟩,U ⟨#[]⟩]) 2 32 PV hi ro ph qr rfl (by decide) s (bW f0 t k).length ((bW f0 t k).flatMap bI) (by simp[Act.eval]) (D.drew.alloc _) (Q wr.heap.size 0 Y) 1 1 (bI (f0 k)) (by simp[Act.eval]) rfl (dt wr.drew _ _ _) (by simp[bI,Value.oneCell']) (by unfold maxLen;omega) (by omega) (by simp<;>omega) ?_;intro v' w2 n l A;obtain⟨gs,cs,rfl⟩:=fk n (by omega);have O2:=ae n;have S:=ae (bg u l (by simp<;>omega) (λj e=>(D.lt j e).1));obtain⟨x2,y2⟩:=(f.aa S ly).o0;clear n l A))
    all_goals
     clear x0 y0 O;go_wp2;exact⟨⟨k+1,_,by omega,by go_num,(f.aa S ly).set0 _,by show World.ownsRow _ _ _ _ _ _ _;rw[yE C.out,cM,BM];simpa using aP O2.out (by omega) _,(q.trans (S.mono (by omega))).setCell (by simp;omega) _⟩,by simp[intOf];omega⟩
  ·have e:n0=k:=by omega
   subst e;have O:=f.a0;have ZP:=f.a1;go_wp2;clear O ZP y hk;generalize wr=W1 at f D q ZL ⊢;go_loopw [7] (λi wr=>∃(k:Nat) (r:ZC) (R:List TR),k<=n1/\i=J I k/\Hid (Boxes wr w.heap.size (Z a0 n0 c0) (Z a1 n1 c1) s r)/\Hid (wr.ownsRow (w.heap.size+3) 122 2 s (bW f0 t n0).length ((bW f0 t n0).flatMap bI))/\Hid (TRow wr (w.heap.size+3) r R)/\Hid (R.map (·.1)=keepT f1 t k)/\Hid (Below w.heap.size w wr)) (λi _=>n1 - (intOf i).toNat);case atStart=>exact⟨0,_,[],by omega,rfl,f,D,dd _ _,rfl,q⟩
   case round =>
    clear f D q;obtain⟨k,r,R,hk,rfl,f,F,B,ZO,q⟩:=hrel;have hlt4:=f.lt;by_cases y:k<n1
    ·obtain⟨b,off,rfl,z⟩:=V1.resolve_left (by omega);obtain⟨ZK,ka,ZI,ZJ,hx⟩:=(z.2 k y).aa q ly z.1;have HX:=ae hx;have sm:=z.1;clear z hx;have hRl:R.length<=1048576:=by have h1:=AP List.length ZO.out;have h2:=ke f1 t k;simp at h1;omega
     have fd:((f1 k).f:Int)<=1048576:=by have:=HF.out k y;unfold cR at this;omega
     have ZP:=f.a1;have ur:¬ b=w.heap.size+1+1:=by omega
     have aq:¬ w.heap.size+1+1=b:=by omega
     have hbw:b<wr.heap.size:=lj sm q.size;cases hq:((f1 k).e.toList == t.toList) with
     |true =>have C:=ae hq;go_wp2;exact⟨⟨k+1,r,R,by omega,by go_num,f,F,B,by show _=keepT f1 t (k+1);rw[yF C.out];exact ZO,q⟩,by simp[intOf];omega⟩
     |false =>
      have C:=ae hq;have ST:Hid (∀V,Below (w.heap.size+3) wr V->(V.cell? (Q (w.heap.size+1+1) 1 Y)=T r/\w.heap.size+1+1<V.heap.size)/\(V.cell? (Q w.heap.size 1 Y)=T (Z (T (Q b off Y)) n1 c1)/\w.heap.size<V.heap.size)/\V.cell? (Q b (off+k*2) Y)=T (U (f1 k).e)/\V.cell? (Q b (off+k*2+1) Y)=T (Z ka (f1 k).f ZI)/\b<V.heap.size):=λV H=>by have hz:=H.size;have h:=f.aa H ly;exact⟨⟨h.o1.1,by have:=h.lt;omega⟩,⟨h.a1,by have:=h.lt;omega⟩,(H.cell (p:=(Q b (off+k*2) Y)) (by show b<w.heap.size+3;omega)).trans ZK,(H.cell (p:=(Q b (off+k*2+1) Y)) (by show b<w.heap.size+3;omega)).trans ZJ,by omega⟩
      have u:=ae (q9 wr).drew;have hki:(k:Int)<(n1:Int):=by omega
      go_wp2_with fail;refine aE (λV=>(V.cell? (Q (w.heap.size+1+1) 1 Y)=T r/\w.heap.size+1+1<V.heap.size)/\(V.cell? (Q w.heap.size 1 Y)=T (Z (T (Q b off Y)) n1 c1)/\w.heap.size<V.heap.size)/\V.cell? (Q b (off+k*2) Y)=T (U (f1 k).e)/\V.cell? (Q b (off+k*2+1) Y)=T (Z ka (f1 k).f ZI)/\b<V.heap.size) 19 (by kernel_rfl) ?_;have o:=ae (ST _ (u.mono (by omega)));clear ZP ZK ZJ ur aq;generalize wr.drew=v2 at u o ⊢;iterate 14
       refine aI 0 (v:=?_) rfl rfl (by kernel_rfl) (λ_ _ _ h=>h) rfl ?_ o ?_;rotate_left
       ·(intro wz n9;obtain⟨⟨s0,s1⟩,⟨s2,s3⟩,s4,s5,s6⟩:=n9;go_simp)
        (try with_reducible rfl)
       (try simp only[Act.put,nzL])
      refine ag (i:=14) rfl (by kernel_rfl) λK m=>?_;go_simp;go_at_call 111;refine(je ka (f1 k).f ZI (f1 k).G _ fd (HX.aa u ly)).mono ?_;rintro e wC ⟨g,c,rfl,ZM,hB⟩;have DC:=ae (u.trans (hB.mono u.size));have dg:=DC.size;have th:=(dL ZM).1;have hz1:=u.size;have OC:=ae (aC ZM (base':=w.heap.size+3) (by omega));have ZN:wr.heap.size<=g:=by omega
      clear hB ZM th o;have o:=ae (ST _ (DC.mono (by omega)));refine m _ _ (λ_=>o) ?_;clear m K
      (try simp only[Act.put,nzL])
      refine ag (i:=15) rfl (by kernel_rfl) λK m=>?_;go_simp;refine m _ _ (λ_=>o) ?_;clear m K o
      (try simp only[Act.put,nzL])
      have DA:=ae (DC.alloc dg (N #[U (f1 k).e,Z (T (Q g 0 Y)) (f1 k).f c] 125));have o:=ae (ST _ (DA.mono (by omega)));refine ag (i:=16) rfl (by kernel_rfl) λK m=>?_;go_simp;refine m _ _ (λ_=>o) ?_;clear m K o
      (try simp only[Act.put,nzL])
      refine ag (i:=17) rfl (by kernel_rfl) λK m=>?_;refine eF rfl (.tmp 50) (.tmp 65) 42 rfl (w.heap.size+3) 125 ld (.agg #[U ⟨#[]⟩,Z Y 0 0]) 2 40 OJ hj mv X bt rfl (by decide) r R.length (R.flatMap bi) (by simp[Act.eval]) ((B.aa DC ly).i.alloc _) (Q wC.heap.size 0 Y) 1 1 (bi (f1 k,g,c)) (by simp[Act.eval]) rfl (dt wC _ _ _) (by simp[bi,Value.oneCell']) (by unfold maxLen;omega) (by omega) (by simp;omega) ?_;intro v' w2 n l A;obtain⟨gs,cs,rfl⟩:=fk n (by omega);have T2:=ae (B.more (x:=f1 k) (g:=g) (c:=c) DA ZN (by omega) (OC.alloc _) n l);have P:=ae (bg (DA.mono (show w.heap.size+3<=wr.heap.size by omega)) l (by simp;omega) (λj e=>(B.i.lt j e).1));have la:=ae ((own_below F DA ly).kept l (Az (own_below F DA ly) ((B.aa DC ly).i.alloc _) (by decide)));have G:=ae (f.aa P ly);obtain⟨x2,y2⟩:=G.o1;have hz2:=G.lt;have o:=ae (ST _ P);clear n l A;refine m _ _ (λ_=>o) ?_;clear m K
      (try simp only[Act.put,nzL])
      refine ag (i:=18) rfl (by kernel_rfl) λK m=>?_;go_simp;refine m _ _ (λ_=>o) ?_;clear m K
      (try simp only[Act.put,nzL])
      have hz3:w.heap.size+1+1<w2.heap.size:=by omega
      refine ag (i:=19) rfl (by kernel_rfl) λK m=>?_;go_simp;refine m _ _ (λh=>absurd rfl h) ?_;clear m K o
      (try simp only[Act.put,nzL])
      refine aW (by kernel_rfl) ?_ _;clear x2 y2;go_wp2;exact⟨⟨k+1,_,R++[(f1 k,g,c)],by omega,by go_num,G.set1 _,aP la (by omega) _,T2.set (by omega) _,by show _=keepT f1 t (k+1);rw[yG C.out,BG,ZO.out];rfl,(q.trans (P.mono (by omega))).setCell (by simp;omega) _⟩,by simp[intOf];omega⟩
    ·have e:n1=k:=by omega
     subst e;have ZP:=f.a1;obtain⟨sa,sc,rfl⟩:=aU F;obtain⟨ta,tc,rfl⟩:=aU B.i;obtain⟨r0,q0⟩:=f.r0;obtain⟨r1,q1⟩:=f.r1;obtain⟨m0,_⟩:=f.o0;obtain⟨m1,_⟩:=f.o1;go_wp2;exact bp (v:=.agg #[Z sa _ sc,Z ta _ tc]) (by simp[results,Tryz.results120,go_sem,r0,r1]) rfl ⟨_,_,R,rfl,aP (aP F (by omega) _) (by omega) _,(B.set (by omega) _).set (by omega) _,ZO,(q.setCell (by simp) _).setCell (by simp) _⟩
theorem uf (a0:Option Addr)(n0 c0:Nat)(f0:Nat->Source)(a1:Option Addr)(n1 c1:Nat)(f1:Nat->Target)(t tx:ByteArray)(w:M)(hn0:(n0:Int)<=1048576)(hn1:(n1:Int)<=1048576)(At:SlSource w a0 n0 f0)(DQ:SlTarget w a1 n1 f1)(sm:∀i,i<n1->cR (f1 i))(hs:∀i,i<n1->∀j,j<(f1 i).f->((f1 i).G j).s.size<=maxLen):Calls Tryz.prog 84 #[.agg #[Z a0 n0 c0,Z a1 n1 c1],U t,U tx] w λe O=>∃v0 v1 R,e=ZF (.tuple #[.agg #[v0,v1],J I (oQ n0 f0 n1 f1 t tx)])/\O.ownsRow w.heap.size 122 2 v0 (lQ n0 f0 n1 f1 t tx).length ((lQ n0 f0 n1 f1 t tx).flatMap bI)/\TRow O w.heap.size v1 R/\R.map (·.1)=oR n0 f0 n1 f1 t tx/\Below w.heap.size w O:=by
 have V0:=ae At;have V1:=ae DQ;have HF:=ae sm;have HS:=ae hs;clear At DQ sm hs;obtain⟨ZP,ZN,ZQ,ZO,F⟩:=LY lv;obtain⟨C,hC⟩:∃C,C=ce n0 f0 n1 f1:=⟨_,rfl⟩
 obtain⟨D,hD⟩:∃D,D=oQ n0 f0 n1 f1 t tx:=⟨_,rfl⟩
 obtain⟨LS,ur⟩:∃LS,LS=lQ n0 f0 n1 f1 t tx:=⟨_,rfl⟩
 obtain⟨LT,ph⟩:∃LT,LT=oR n0 f0 n1 f1 t tx:=⟨_,rfl⟩
 rw[<-hD,<-ur,<-ph];have HC:=ae hC;have HD:=ae (hD.trans (by unfold oQ;rw[<-hC]));have x:=ae (ur.trans (by unfold lQ;rw[<-hD]));have ZI:=ae (ph.trans (by unfold oR;rw[<-hD]));clear hC hD ur ph;obtain⟨W,qr⟩:∃W:M,(w.alloc (N #[Z a0 n0 c0,Z a1 n1 c1] 44)).alloc (N #[Z Y 0 0,Z Y 0 0] 44)=W:=⟨_,rfl⟩
 obtain⟨A0,-,-,-⟩:=nb2 qr;have DH:=ae qr;clear qr;have X0:=ae (tW w (Z a0 n0 c0) (Z a1 n1 c1) 44);go_enter Tryz.func84,Tryz.ntmps84;go_wp2_with fail;rw[DH.out] at X0 ⊢;clear DH;refine(fu a0 n0 c0 f0 a1 n1 c1 f1 _ hn0 hn1 (V0.aa A0 ly) (V1.aa A0 ly) HF HS).mono ?_;rintro e w1 ⟨rfl,u⟩;rw[<-HC.out];have X1:=ae (X0.aa u X0.lt');have B1:=ae (A0.trans (u.mono A0.size));clear u A0 X0;by_cases hc:C=0;case neg =>
  have hd:=HD.out;rw[p7 hc] at hd;have q:=x.out;rw[nD (by omega)] at q;have n:=ZI.out;rw[nD (by omega)] at n;subst hd q n;have hc':(C == 0)=ZA:=by simpa using hc
  obtain⟨r0,q0⟩:=X1.r0;obtain⟨r1,ZL⟩:=X1.r1;go_wp2;exact bp (v:=.tuple #[.agg #[Z Y 0 0,Z Y 0 0],J I 1]) (by simp[results,RU,go_sem,r0,r1]) rfl ⟨_,_,[],rfl,AT _ _ _ _,dd _ _,rfl,(B1.setCell (by simp) _).setCell (by simp) _⟩
 subst hc;have hz:=lP HC.symm;have HZ:=ae hz;clear hz HC;have th:=HD.out;rw[nD (by omega)] at th;have la:=ae th;clear th HD;go_wp2_with fail;refine(cZ t _).mono ?_;rintro e w2 ⟨rfl,u⟩;have G:=ae (X1.aa u X1.lt');have ZM:=ae (B1.trans (u.mono B1.size));clear u X1 B1;by_cases m:aw t=ZA∨2000<(tx.size:Int)
 ·have hd:=la.out;rw[p7 m] at hd;have q:=x.out;rw[nD (by omega)] at q;have n:=ZI.out;rw[nD (by omega)] at n;subst hd q n;obtain⟨r0,q0⟩:=G.r0;obtain⟨r1,ZL⟩:=G.r1;cases hn:aw t with
  |false =>clear m;go_wp2;exact bp (v:=.tuple #[.agg #[Z Y 0 0,Z Y 0 0],J I 2]) (by simp[results,RU,go_sem,r0,r1]) rfl ⟨_,_,[],rfl,AT _ _ _ _,dd _ _,rfl,(ZM.setCell (by simp) _).setCell (by simp) _⟩
  |true =>have DS:(2000:Int)<tx.size:=m.resolve_left (by simp[hn]);clear m;go_wp2;exact bp (v:=.tuple #[.agg #[Z Y 0 0,Z Y 0 0],J I 2]) (by simp[results,RU,go_sem,r0,r1]) rfl ⟨_,_,[],rfl,AT _ _ _ _,dd _ _,rfl,(ZM.setCell (by simp) _).setCell (by simp) _⟩
 have ro:=la.out;rw[nD m] at ro;have Bk:=ae ro;have hn:aw t=ZG:=by
  cases h:aw t with
  |true=>rfl
  |false=>exact absurd (.inl h) m
 have DS:¬ (2000:Int)<tx.size:=λh=>m (.inr h);clear ro la m;have k0:=G.a0;have k1:=G.a1;rw[hn];go_wp2_with fail;refine(fY a0 n0 c0 f0 a1 n1 c1 f1 t _ hn0 hn1 (V0.aa ZM ly) (V1.aa ZM ly) HF).mono ?_;rintro e w3 ⟨v0,v1,R,rfl,hO,hR,hM,u⟩;have hlt2:=G.lt;have X3:=ae (G.aa u G.lt');have B3:=ae (ZM.trans (u.mono ZM.size));obtain⟨sa,sc,rfl⟩:=aU hO;obtain⟨ta,tc,rfl⟩:=aU hR.i;have eR:R.length=(keepT f1 t n1).length:=by rw[<-hM];simp
 have Fk:=j9 f0 t n0;have Fm:=ke f1 t n1;obtain⟨L,hL⟩:∃L,L=bW f0 t n0:=⟨_,rfl⟩
 obtain⟨K,hK⟩:∃K,K=keepT f1 t n1:=⟨_,rfl⟩
 rw[<-hL] at hO Fk ⊢;rw[<-hK] at hM Fm eR;have A:=Bk.out;rw[<-hL,<-hK] at A;have q:=x.out;rw[<-hL] at q;have n:=ZI.out;rw[<-hK] at n;have ER:=ae eR;have hlr:R.length<=n1:=by omega
 clear Bk x ZI hL hK u k0 k1 hn G ZM eR;have O3:=ae (aC hO (base':=w.heap.size) (by omega));have RX:Hid (∀O,Below w3.heap.size w3 O->TRow O (w2.heap.size+3) (Z ta R.length tc) R):=λO hb=>hR.aa hb ly;have HM:=ae hM;have hll:(L.length:Int)<=1048576:=by omega
 clear hO hR hM;obtain⟨w4,S⟩:∃W:M,w3.alloc (N #[Z sa L.length sc,Z ta R.length tc] 44)=W:=⟨_,rfl⟩
 obtain⟨DB,-,dg⟩:=nb1 S;have ld:=ae S;clear S;have P:=ae (t8 w3 (Z sa L.length sc) (Z ta R.length tc) 44);have X4:=ae (X3.aa DB X3.lt');have B4:=ae (B3.trans (DB.mono B3.size));have O4:=ae (own_below O3 DB ly);have mv:=ae DB.out;have DE:w.heap.size+1<w3.heap.size:=X3.lt;have c8:=P.c0;have c9:=P.c1;clear O3 DB;by_cases hc3:(200:Int)<=L.length+R.length;{rw[p7 (by have:=ER.out;omega)] at A;rw[nD (by omega)] at q n;subst A q n;obtain⟨r0,q0⟩:=X3.r0;obtain⟨r1,ZL⟩:=X3.r1;clear c8 c9;go_wp2;exact bp (v:=.tuple #[.agg #[Z Y 0 0,Z Y 0 0],J I 3]) (by simp[results,RU,go_sem,r0,r1,DE]) rfl ⟨_,_,[],rfl,AT _ _ _ _,dd _ _,rfl,((B3.setCell (by simp) _).setCell (by simp) _).alloc (by have:=B3.size;simp;omega) _⟩};clear X3 B3;rw[nD (by have:=ER.out;omega)] at A;rw[p7 A] at q n;subst A n;have x:=ae q;clear q;go_wp2;rw[ld.out] at P c8 c9 ⊢;clear ld;generalize w3.heap.size=X at P c8 c9 DE dg RX mv ⊢;obtain⟨r,n9⟩:∃r,r=w4.heap.size:=⟨_,rfl⟩
 have E0:Hid (Below r w4 (w4.alloc (N #[] 122))):=by rw[n9];exact br.alloc ly _
 have W0:Hid ((w4.alloc (N #[] 122)).ownsRow r 122 2 (Z (T (Q (X+1) 0 Y)) 0 0) 0 []):=by rw[<-dg];exact NQ w4 #[] 0 (by omega) (by unfold maxLen;omega) rfl
 have y:X<r:=by have:=P.lt;omega
 have f:=ae n9;have H:=ae dg;clear n9 dg;go_loopw [9,10,11] (λv d i wr=>∃(k:Nat) (db:Bool),k<=L.length/\i=J I k/\d=.bool db/\Hid (db=eX L t k)/\Hid (wr.ownsRow r 122 2 v (bX L ⟨t,tx⟩ t k).length ((bX L ⟨t,tx⟩ t k).flatMap bI))/\Hid (Below r w4 wr)) (λ_ _ i _=>L.length - (intOf i).toNat);case atStart=>exact⟨0,ZA,by omega,rfl,rfl,rfl,W0,E0⟩
 case round =>
  obtain⟨k,db,hk,rfl,rfl,B,z,l⟩:=hrel;have e8:=(l.cell (p:=(Q X 0 Y)) y).trans c8;have Fd:=rN L ⟨t,tx⟩ t k;obtain⟨hlen1,aq⟩:=Fd;have HL2:=ae aq;clear aq;by_cases n:k<L.length
  ·obtain⟨b,off,rfl,hr⟩:=(xo O4).resolve_left (by omega);obtain⟨p0,p1⟩:=hr.2 k n;have fd:b<r:=by have:=hr.1;have:=f.out;omega
   have d0:=(l.cell (p:=(Q b (off+k*2) Y)) fd).trans p0;have d1:=(l.cell (p:=(Q b (off+k*2+1) Y)) fd).trans p1;clear hr;cases db with
   |true =>
    have HI:Hid (bX L ⟨t,tx⟩ t (k+1)=bX L ⟨t,tx⟩ t k++[da L k]):=by show(if _ then _ else _)=_;rw[nD (by rw[<-B.out];simp)]
    have HN:Hid (ZG=eX L t (k+1)):=by show ZG=(eX L t k || _);rw[<-B.out];rfl
    go_wp2_with (at_builtin;(refine BS _ rfl (.tmp 63) (.tmp 69) 41 rfl r 122 ZP (.agg #[U ⟨#[]⟩,U ⟨#[]⟩]) 2 32 PV ZN ZQ ZO F rfl (by decide) _ (bX L ⟨t,tx⟩ t k).length ((bX L ⟨t,tx⟩ t k).flatMap bI) (by simp[Act.eval]) (z.alloc _) (Q wr.heap.size 0 Y) 1 1 (bI (da L k)) (by simp[Act.eval]) rfl (dt wr _ _ _) (by simp[bI,Value.oneCell']) (by unfold maxLen;omega) (by omega) (by have:=l.size;have:=f.out;simp;omega) ?_;intro vy wy g c o;have OY:=ae g;have BY:=ae (bg (l.alloc (by have:=l.size;have:=f.out;omega) (N #[U (da L k).e,U (da L k).h] 122)) c (by have:=l.size;have:=f.out;simp;omega) (λj e=>(z.lt j e).1));clear g c o));exact⟨⟨k+1,ZG,by omega,by go_num,rfl,HN,by show World.ownsRow _ _ _ _ _ _ _;rw[HI.out,cM,BM];simpa using OY.out,BY⟩,by simp[intOf];omega⟩
   |false =>
    cases hq:ez t (da L k).e with
    |true =>
     have HI:Hid (bX L ⟨t,tx⟩ t (k+1)=bX L ⟨t,tx⟩ t k++[⟨t,tx⟩]++[da L k]):=by show(if _ then _ else _)=_;rw[p7 ⟨B.symm,hq⟩]
     have HN:Hid (ZG=eX L t (k+1)):=by show ZG=(eX L t k || _);rw[hq];simp
     obtain⟨ZL,q2⟩:=rM hq;clear hq;go_wp2_with (at_builtin;first|(refine BS _ rfl (.tmp 57) (.tmp 61) 41 rfl r 122 ZP (.agg #[U ⟨#[]⟩,U ⟨#[]⟩]) 2 32 PV ZN ZQ ZO F rfl (by decide) _ (bX L ⟨t,tx⟩ t k).length ((bX L ⟨t,tx⟩ t k).flatMap bI) (by simp[Act.eval]) (z.alloc _) (Q wr.heap.size 0 Y) 1 1 (bI ⟨t,tx⟩) (by simp[Act.eval]) rfl (dt wr _ _ _) (by simp[bI,Value.oneCell']) (by unfold maxLen;omega) (by omega) (by have:=l.size;have:=f.out;simp;omega) ?_;intro vx wx g c o;have OX:=ae g;have V:=ae (bg (l.alloc (by have:=l.size;have:=f.out;omega) (N #[U t,U tx] 122)) c (by have:=l.size;have:=f.out;simp;omega) (λj e=>(z.lt j e).1));have f8:=(V.cell (p:=(Q X 0 Y)) y).trans c8;have g0:=(V.cell (p:=(Q b (off+k*2) Y)) fd).trans p0;have g1:=(V.cell (p:=(Q b (off+k*2+1) Y)) fd).trans p1;clear g c o)|(refine BS _ rfl (.tmp 63) (.tmp 69) 41 rfl r 122 ZP (.agg #[U ⟨#[]⟩,U ⟨#[]⟩]) 2 32 PV ZN ZQ ZO F rfl (by decide) _ ((bX L ⟨t,tx⟩ t k).length+1) ((bX L ⟨t,tx⟩ t k).flatMap bI++bI ⟨t,tx⟩) (by simp[Act.eval]) (OX.alloc _) (Q wx.heap.size 0 Y) 1 1 (bI (da L k)) (by simp[Act.eval]) rfl (dt wx _ _ _) (by simp[bI,Value.oneCell']) (by unfold maxLen;omega) (by omega) (by have:=V.size;have:=f.out;simp;omega) ?_;intro vy wy g c o;have OY:=ae g;have BY:=ae (bg (V.alloc (by have:=V.size;have:=f.out;omega) (N #[U (da L k).e,U (da L k).h] 122)) c (by have:=V.size;have:=f.out;simp;omega) (λj e=>(OX.lt j e).1));clear g c o));exact⟨⟨k+1,ZG,by omega,by go_num,rfl,HN,by show World.ownsRow _ _ _ _ _ _ _;rw[HI.out,cM,cM,BM,BM];simpa using OY.out,BY⟩,by simp[intOf];omega⟩
    |false =>
     have HI:Hid (bX L ⟨t,tx⟩ t (k+1)=bX L ⟨t,tx⟩ t k++[da L k]):=by show(if _ then _ else _)=_;rw[nD (by rw[hq];simp)]
     have HN:Hid (ZA=eX L t (k+1)):=by show ZA=(eX L t k || _);rw[<-B.out,hq];rfl
     have HQ:=ae (t6 hq);clear hq;rcases HQ.out with ZL|⟨ZL,q2⟩
     all_goals
      go_wp2_with (at_builtin;(refine BS _ rfl (.tmp 63) (.tmp 69) 41 rfl r 122 ZP (.agg #[U ⟨#[]⟩,U ⟨#[]⟩]) 2 32 PV ZN ZQ ZO F rfl (by decide) _ (bX L ⟨t,tx⟩ t k).length ((bX L ⟨t,tx⟩ t k).flatMap bI) (by simp[Act.eval]) (z.alloc _) (Q wr.heap.size 0 Y) 1 1 (bI (da L k)) (by simp[Act.eval]) rfl (dt wr _ _ _) (by simp[bI,Value.oneCell']) (by unfold maxLen;omega) (by omega) (by have:=l.size;have:=f.out;simp;omega) ?_;intro vy wy g c o;have OY:=ae g;have BY:=ae (bg (l.alloc (by have:=l.size;have:=f.out;omega) (N #[U (da L k).e,U (da L k).h] 122)) c (by have:=l.size;have:=f.out;simp;omega) (λj e=>(z.lt j e).1));clear g c o));exact⟨⟨k+1,ZA,by omega,by go_num,rfl,HN,by show World.ownsRow _ _ _ _ _ _ _;rw[HI.out,cM,BM];simpa using OY.out,BY⟩,by simp[intOf];omega⟩
  ·have e:L.length=k:=by omega
   subst e;cases db with
   |true =>
    have E:qE L ⟨t,tx⟩ t=bX L ⟨t,tx⟩ t L.length:=by unfold qE;rw[p7 B.symm]
    obtain⟨va,vc,rfl⟩:=aU z;have OF:Hid (wr.ownsRow r 122 2 (Z va (bX L ⟨t,tx⟩ t L.length).length vc) LS.length (LS.flatMap bI)):=by show World.ownsRow _ _ _ _ _ _ _;rw[x.out,E];exact z
    have bt:=f.out;have ZJ:=H.out;have H1:=ae bt;have H2:=ae ZJ;have H3:=ae E;have e9:=(l.cell (p:=(Q X 1 Y)) y).trans c9;have y8:=(l.frozen (p:=(Q X 0 Y)) y).trans P.z0;obtain⟨r0,q0⟩:=(X4.aa l (by omega)).r0;obtain⟨r1,ZL⟩:=(X4.aa l (by omega)).r1;clear bt ZJ E;go_wp2;have bt:=f.out;have ZJ:=H.out;exact bp (v:=.tuple #[.agg #[Z va (bX L ⟨t,tx⟩ t L.length).length vc,Z ta R.length tc],J I 0]) (by simp[results,RU,go_sem,r0,r1]) rfl ⟨_,_,R,rfl,aC (aP (aP (aP OF (R:=X) (j:=0) (by omega) _) (R:=w.heap.size+1) (j:=0) (by omega) _) (R:=w.heap.size+1) (j:=1) (by omega) _) (by omega),gG (((RX _ ((mv.trans (l.mono (by omega))).setCell (p:=(Q X 0 Y)) ly _)).set (X:=w.heap.size+1) (j:=0) (by omega) _).set (X:=w.heap.size+1) (j:=1) (by omega) _) (by omega),HM,(((B4.trans (l.mono (by omega))).setCell (by simp;omega) _).setCell (by simp) _).setCell (by simp) _⟩
   |false =>
    go_wp2_with (at_builtin;(refine BS _ rfl (.tmp 73) (.tmp 77) 41 rfl r 122 ZP (.agg #[U ⟨#[]⟩,U ⟨#[]⟩]) 2 32 PV ZN ZQ ZO F rfl (by decide) _ (bX L ⟨t,tx⟩ t L.length).length ((bX L ⟨t,tx⟩ t L.length).flatMap bI) (by simp[Act.eval]) (z.alloc _) (Q wr.heap.size 0 Y) 1 1 (bI ⟨t,tx⟩) (by simp[Act.eval]) rfl (dt wr _ _ _) (by simp[bI,Value.oneCell']) (by unfold maxLen;omega) (by omega) (by have:=l.size;have:=f.out;simp;omega) ?_;intro vz wz g c o;obtain⟨gs,cs,rfl⟩:=fk g (by omega);have OZ:=ae g;have ZK:=ae (bg (l.alloc (by have:=l.size;have:=f.out;omega) (N #[U t,U tx] 122)) c (by have:=l.size;have:=f.out;simp;omega) (λj e=>(z.lt j e).1));have f8:=(ZK.cell (p:=(Q X 0 Y)) y).trans c8;have f9:=(ZK.cell (p:=(Q X 1 Y)) y).trans c9;have y8:=(ZK.frozen (p:=(Q X 0 Y)) y).trans P.z0;obtain⟨r0,q0⟩:=(X4.aa ZK (by have:=f.out;have:=H.out;omega)).r0;obtain⟨r1,ZL⟩:=(X4.aa ZK (by have:=f.out;have:=H.out;omega)).r1;clear g c o));have E:qE L ⟨t,tx⟩ t=bX L ⟨t,tx⟩ t L.length++[⟨t,tx⟩]:=by unfold qE;rw[nD (by rw[<-B.out];simp)]
    have OF:Hid (wz.ownsRow r 122 2 (Z (T (Q gs 0 Y)) ((bX L ⟨t,tx⟩ t L.length).length+1) cs) LS.length (LS.flatMap bI)):=by show World.ownsRow _ _ _ _ _ _ _;rw[x.out,E,cM,BM];simpa using OZ.out
    have bt:=f.out;have ZJ:=H.out;exact bp (v:=.tuple #[.agg #[Z (T (Q gs 0 Y)) ((bX L ⟨t,tx⟩ t L.length).length+1) cs,Z ta R.length tc],J I 0]) (by simp[results,RU,go_sem,r0,r1]) rfl ⟨_,_,R,rfl,aC (aP (aP (aP OF (R:=X) (j:=0) (by omega) _) (R:=w.heap.size+1) (j:=0) (by omega) _) (R:=w.heap.size+1) (j:=1) (by omega) _) (by omega),gG (((RX _ ((mv.trans (ZK.mono (by omega))).setCell (p:=(Q X 0 Y)) ly _)).set (X:=w.heap.size+1) (j:=0) (by omega) _).set (X:=w.heap.size+1) (j:=1) (by omega) _) (by omega),HM,(((B4.trans (ZK.mono (by omega))).setCell (by simp;omega) _).setCell (by simp) _).setCell (by simp) _⟩
theorem ug (a0:Option Addr)(n0 c0:Nat)(f0:Nat->Source)(a1:Option Addr)(n1 c1:Nat)(f1:Nat->Target)(t:ByteArray)(w:M)(hn0:(n0:Int)<=1048576)(hn1:(n1:Int)<=1048576)(aq:SlSource w a0 n0 f0)(fd:SlTarget w a1 n1 f1)(H:∀i,i<n1->cR (f1 i))(hs:∀i,i<n1->∀j,j<(f1 i).f->((f1 i).G j).s.size<=maxLen):Calls Tryz.prog 80 #[.agg #[Z a0 n0 c0,Z a1 n1 c1],U t] w λe w'=>∃v0 v1 R,e=ZF (.tuple #[.agg #[v0,v1],J I (lN n0 f0 n1 f1 t)])/\w'.ownsRow w.heap.size 122 2 v0 (jo n0 f0 n1 f1 t).length ((jo n0 f0 n1 f1 t).flatMap bI)/\TRow w' w.heap.size v1 R/\R.map (·.1)=lO n0 f0 n1 f1 t/\Below w.heap.size w w':=by
 have V0:=ae aq;have V1:=ae fd;have HF:=ae H;have HS:=ae hs;clear aq fd H hs;obtain⟨C,hC⟩:∃C,C=ce n0 f0 n1 f1:=⟨_,rfl⟩
 obtain⟨D,L⟩:∃D,D=lN n0 f0 n1 f1 t:=⟨_,rfl⟩
 obtain⟨LS,ZK⟩:∃LS,LS=jo n0 f0 n1 f1 t:=⟨_,rfl⟩
 obtain⟨LT,ZM⟩:∃LT,LT=lO n0 f0 n1 f1 t:=⟨_,rfl⟩
 rw[<-L,<-ZK,<-ZM];have HC:=ae hC;have HD:=ae (L.trans (by unfold lN;rw[<-hC]));have m:=ae (ZK.trans (by unfold jo;rw[<-L]));have n:=ae (ZM.trans (by unfold lO;rw[<-L]));clear hC L ZK ZM;obtain⟨W,S⟩:∃W:M,(w.alloc (N #[Z a0 n0 c0,Z a1 n1 c1] 44)).alloc (N #[Z Y 0 0,Z Y 0 0] 44)=W:=⟨_,rfl⟩
 obtain⟨V,-,-,-⟩:=nb2 S;have dg:=ae S;clear S;have X0:=ae (tW w (Z a0 n0 c0) (Z a1 n1 c1) 44);go_enter Tryz.func80,Tryz.ntmps80;go_wp2_with fail;rw[dg.out] at X0 ⊢;clear dg;refine(fu a0 n0 c0 f0 a1 n1 c1 f1 _ hn0 hn1 (V0.aa V ly) (V1.aa V ly) HF HS).mono ?_;rintro e w1 ⟨rfl,b⟩;rw[<-HC.out];have ZN:=ae (X0.aa b X0.lt');have ZI:=ae (V.trans (b.mono V.size));clear b V X0;by_cases hc:C=0;case neg =>
  have g:=HD.out;rw[p7 hc] at g;have c:=m.out;rw[nD (by omega)] at c;have f:=n.out;rw[nD (by omega)] at f;subst g c f;have hc':(C == 0)=ZA:=by simpa using hc
  obtain⟨r0,q0⟩:=ZN.r0;obtain⟨r1,ZJ⟩:=ZN.r1;go_wp2;exact bp (v:=.tuple #[.agg #[Z Y 0 0,Z Y 0 0],J I 1]) (by simp[results,TU,go_sem,r0,r1]) rfl ⟨_,_,[],rfl,AT _ _ _ _,dd _ _,rfl,(ZI.setCell (by simp) _).setCell (by simp) _⟩
 subst hc;have hz:=lP HC.symm;have HZ:=ae hz;clear hz HC;have ZQ:=HD.out;rw[nD (by omega)] at ZQ;have K:=ae ZQ;clear ZQ HD;go_wp2_with fail;refine(cZ t _).mono ?_;rintro e w2 ⟨rfl,b⟩;have o:=ae (ZN.aa b ZN.lt');have P:=ae (ZI.trans (b.mono ZI.size));clear b ZN ZI;cases hn:aw t with
 |false =>have g:=K.out;rw[p7 hn] at g;have c:=m.out;rw[nD (by omega)] at c;have f:=n.out;rw[nD (by omega)] at f;subst g c f;clear hn;obtain⟨r0,q0⟩:=o.r0;obtain⟨r1,ZJ⟩:=o.r1;go_wp2;exact bp (v:=.tuple #[.agg #[Z Y 0 0,Z Y 0 0],J I 2]) (by simp[results,TU,go_sem,r0,r1]) rfl ⟨_,_,[],rfl,AT _ _ _ _,dd _ _,rfl,(P.setCell (by simp) _).setCell (by simp) _⟩
 |true =>
  have ZL:=K.out;rw[nD (by simp[hn])] at ZL;have ZO:=ae ZL;clear ZL K hn;have F:=o.a0;have G:=o.a1;go_wp2_with fail;refine(tZ a0 n0 c0 a1 n1 c1 f0 t _ hn0 (V0.aa P ly)).mono ?_;rintro e wS ⟨r,rfl,A,b⟩;have E:=ae (o.aa b o.lt');have O:=ae (P.trans (b.mono P.size));clear b o P F G;have F:=E.a0;have G:=E.a1;by_cases hr:r<0
  ·have bt:Hid (cH (nm0 f0) n0 t=ZA):=by show _=ZA;rw[<-A];simpa using hr
   clear A;go_wp2_with fail;refine(mF a0 n0 c0 a1 n1 c1 f1 t _ hn1 (V1.aa O ly)).mono ?_;rintro e w3 ⟨q,rfl,B,b⟩;have h:=ae (E.aa b E.lt');have l:=ae (O.trans (b.mono O.size));clear b E O F G;have F:=h.a0;have G:=h.a1;by_cases hq:q<0
   ·have hi:(cH (nm0 f0) n0 t || cH (nm1 f1) n1 t)=ZA:=by rw[bt.out,<-B];simpa using hq
    clear B;have g:=ZO.out;rw[p7 hi] at g;have c:=m.out;rw[nD (by omega)] at c;have f:=n.out;rw[nD (by omega)] at f;subst g c f;obtain⟨r0,q0⟩:=h.r0;obtain⟨r1,ZJ⟩:=h.r1;go_wp2;exact bp (v:=.tuple #[.agg #[Z Y 0 0,Z Y 0 0],J I 4]) (by simp[results,TU,go_sem,r0,r1]) rfl ⟨_,_,[],rfl,AT _ _ _ _,dd _ _,rfl,(l.setCell (by simp) _).setCell (by simp) _⟩
   ·have hi:(cH (nm0 f0) n0 t || cH (nm1 f1) n1 t)=ZG:=by rw[bt.out,<-B];simpa using hq
    clear B;have g:=ZO.out;rw[nD (by simp[hi])] at g;have c:=m.out;rw[p7 g] at c;have f:=n.out;rw[p7 g] at f;subst g c f;go_wp2_with fail;refine(fY a0 n0 c0 f0 a1 n1 c1 f1 t _ hn0 hn1 (V0.aa l ly) (V1.aa l ly) HF).mono ?_;rintro e w4 ⟨v0,v1,R,rfl,u,hR,hM,b⟩;have ZP:=ae (h.aa b h.lt');have la:=h.lt;have B4:=ae (l.trans (b.mono l.size));obtain⟨x,y,rfl⟩:=aU u;obtain⟨p,z,rfl⟩:=aU hR.i;have O4:=ae (aC (aP (aP (R:=w.heap.size+1) (j:=0) u (by omega) (Z x (bW f0 t n0).length y)) (R:=w.heap.size+1) (j:=1) (by omega) (Z p R.length z)) (base':=w.heap.size) (by omega));have T4:=ae (gG ((hR.set (X:=w.heap.size+1) (j:=0) (by omega) (Z x (bW f0 t n0).length y)).set (X:=w.heap.size+1) (j:=1) (by omega) (Z p R.length z)) (base':=w.heap.size) (by omega));have HM:=ae hM;clear u hR b hM F G;obtain⟨r0,q0⟩:=ZP.r0;obtain⟨r1,ZJ⟩:=ZP.r1;go_wp2;exact bp (v:=.tuple #[.agg #[Z x (bW f0 t n0).length y,Z p R.length z],J I 0]) (by simp[results,TU,go_sem,r0,r1]) rfl ⟨_,_,R,rfl,O4,T4,HM,(B4.setCell (by simp) _).setCell (by simp) _⟩
  ·have hi:(cH (nm0 f0) n0 t || cH (nm1 f1) n1 t)=ZG:=by rw[<-A];have:decide (0<=r)=ZG:=decide_eq_true (by omega);rw[this];rfl
   clear A;have h:=E;have l:=O;have g:=ZO.out;rw[nD (by simp[hi])] at g;have c:=m.out;rw[p7 g] at c;have f:=n.out;rw[p7 g] at f;subst g c f;go_wp2_with fail;refine(fY a0 n0 c0 f0 a1 n1 c1 f1 t _ hn0 hn1 (V0.aa l ly) (V1.aa l ly) HF).mono ?_;rintro e w4 ⟨v0,v1,R,rfl,u,hR,hM,b⟩;have ZP:=ae (h.aa b h.lt');have la:=h.lt;have B4:=ae (l.trans (b.mono l.size));obtain⟨x,y,rfl⟩:=aU u;obtain⟨p,z,rfl⟩:=aU hR.i;have O4:=ae (aC (aP (aP (R:=w.heap.size+1) (j:=0) u (by omega) (Z x (bW f0 t n0).length y)) (R:=w.heap.size+1) (j:=1) (by omega) (Z p R.length z)) (base':=w.heap.size) (by omega));have T4:=ae (gG ((hR.set (X:=w.heap.size+1) (j:=0) (by omega) (Z x (bW f0 t n0).length y)).set (X:=w.heap.size+1) (j:=1) (by omega) (Z p R.length z)) (base':=w.heap.size) (by omega));have HM:=ae hM;clear u hR b hM F G;obtain⟨r0,q0⟩:=ZP.r0;obtain⟨r1,ZJ⟩:=ZP.r1;go_wp2;exact bp (v:=.tuple #[.agg #[Z x (bW f0 t n0).length y,Z p R.length z],J I 0]) (by simp[results,TU,go_sem,r0,r1]) rfl ⟨_,_,R,rfl,O4,T4,HM,(B4.setCell (by simp) _).setCell (by simp) _⟩
