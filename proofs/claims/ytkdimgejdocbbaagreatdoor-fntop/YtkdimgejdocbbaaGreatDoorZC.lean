import Derived.RangeFuncKeeps
import Derived.RangeFuncFrom
open Option renaming none->Z,some->Q
open Go renaming World->E,Value->QB,TypeId->QF
open Go.Value renaming bool->QA
open Go.Ending renaming returned->QD
namespace Go.Proofs.YtkdimgejdocbbaaGreatDoor.Ca
open RowKit
structure Upd (P:Nat->Prop)(w w':E):Prop where
 os:w'.os=w.os
 tape:w'.tape=w.tape
 output:w'.output=w.output
 size:w.heap.size<=w'.heap.size
 block:∀ k,k<w.heap.size->¬ P k->w'.heap[k]?=w.heap[k]?
theorem Upd.refl (P:Nat->Prop)(w:E):Upd P w w:=⟨rfl,rfl,rfl,Nat.le_refl _,fun _ _ _=>rfl⟩
theorem Upd.trans {P:Nat->Prop}{a b c:E}(h:Upd P a b)(k:Upd P b c):Upd P a c :=
 ⟨k.os.trans h.os,k.tape.trans h.tape,k.output.trans h.output,Nat.le_trans h.size k.size,fun i hi d=>(k.block i (Nat.lt_of_lt_of_le hi h.size) d).trans (h.block i hi d)⟩
theorem Upd.mono {P QL:Nat->Prop}{a b:E}(h:Upd P a b)(d:∀ k,P k->QL k):Upd QL a b :=
 ⟨h.os,h.tape,h.output,h.size,fun i hi g=>h.block i hi (fun f=>g (d i f))⟩
theorem Upd.setCell {P:Nat->Prop}(w:E){p:Addr}(b:P p.block)(v:QB):Upd P w (w.setCell p v) :=
 ⟨rfl,rfl,rfl,by simp[World.setCell],fun k _ d=>Below.heap_setCell _ _ _ _ (fun e=>d (e ▸ b))⟩
theorem Upd.putObj {P:Nat->Prop}(w:E){l:Nat}(b:P l)(o:Obj):Upd P w (w.putObj l o) :=
 ⟨rfl,rfl,rfl,by simp,fun k _ d=>World.putObj_heap_other (fun e=>d (e ▸ b))⟩
theorem dy {n:Nat}(w:E){l:Nat}(b:n<=l)(hl:l<w.heap.size)(o:Obj):Below n w (w.putObj l o) :=
 (Below.refl n w).grown (grownBy_putObj' w l o) (by omega) (fun k e=>by cases e;exact b)
def zz {f:Type}(F:Fence)(n:Nat)(P:Program)(g:Nat)(o:Array QB)(j:f->Array QB)(q:f->Prop)(i:Nat)(S p:List f->Prop)(QM:Nat)(w:E):Prop :=
 ∀ (l:Nat) (QN h:List f->E->Prop) (W:E),Below w.heap.size w W->(∀ s A B,QN s A->Below W.heap.size A B->QN s B)->(∀ s A B,h s A->Below W.heap.size A B->h s B) ->
  (∀ pre x d,q x->QN pre d->pre.length<QM->W.heap.size<=d.heap.size->YieldAt F (n - 1) P l (j x) d fun e b =>
   (e=QD (QA true)/\QN (pre++[x]) b/\Upd (fun k=>i<=k/\k<W.heap.size) d b)∨(e=QD (QA false)/\h (pre++[x]) b)) ->
  QN [] W ->
  CallsIn F n P g (#[.func (.yield l) #[] #[]]++o) W fun e b=>(∃ v,e=QD v)/\((∃ m,S m/\QN m b)∨(∃ pre,p pre/\h pre b))
def ED {h:Type}(b d:Nat)(QO:List h->E->Prop)(g:Code->List h->E->Prop)(f:List h)(W:E):Exit->Act->E->Prop
 | .normal,_,W'=>Upd (fun k=>b<=k/\k<d) W W'/\QO f W'
 | .ret,_,W'=>Upd (fun k=>b<=k/\k<d) W W'/\g .ret f W'
 | .exit id,_,W'=>Upd (fun k=>b<=k/\k<d) W W'/\g (.exit id) f W'
 | .goto t,_,W'=>Upd (fun k=>b<=k/\k<d) W W'/\g (.goto t) f W'
 | .panic _,_,_=>False
 | .outgrown,_,_=>False
theorem iR {F:Fence}{n:Nat}{P:Program}{o:Type}{g:Operand}{QH:Array Tmp}{assign body:Code}{QL:Exit->Act->E->Prop}{a:Act}{w:E}
  (Bk:F.round=Z) (h1:1<=n) {gf:Nat} {lb:Array QB} (hg:a.eval g=.func (.func gf) #[] lb) (qr:F.fn gf) (eg:∀ args w,(callFunc gf args).run P w=.ok (.enter gf args) w)
  {y:o->Array QB} {Ox:o->Prop} {base:Nat} {S Sp:List o->Prop} {QM:Nat} {R:E} (hbase:base<=w.heap.size) (n6:zz F (n - 1) P gf lb y Ox base S Sp QM R) (ld:Below R.heap.size R w) (At:∀ x,(y x).size=QH.size)
  (QO:List o->E->Prop) (O:Code->List o->E->Prop) (V:∀ s A B,QO s A->Below w.heap.size A B->QO s B) (C:∀ c s A B,O c s A->Below w.heap.size A B->O c s B) (h0:QO [] w) (X:o->Act)
  (L:∀ (l:Nat) (x:o) (W:E) (K:Act->E->Prop),K (X x) W ->
   assign.wpIn (F.inRound l) (n - 1 - 1) P (Exit.then K (fun _ _ _=>False)) { tmps:=(QH.zip (y x)).foldl (fun t (p,v)=>t.setIfInBounds p v) a.tmps,defers:=[] } W)
  (ex:∀ (l:Nat) (pre:List o) (x:o) (W:E),Ox x->QO pre W->pre.length<QM->w.heap.size<=W.heap.size->body.wpIn (F.inRound l) (n - 1 - 1) P (ED base w.heap.size QO O (pre++[x]) W) (X x) W)
  (bt:∀ (QQ:Nat) (QG:List o) (W:E),w.heap.size<=QQ->S QG->QO QG W->W.heap[QQ]?=Q (.deferred (Q []))->QL .normal { a with defers:={ target:=.collected QQ,args:=#[] } :: a.defers } W)
  (aq:∀ (QQ:Nat) (c:Code) (pre:List o) (W:E),w.heap.size<=QQ->Sp pre->O c pre W->W.heap[QQ]?=Q (.deferred (Q []))->c.wpIn F n P QL { a with defers:={ target:=.collected QQ,args:=#[] } :: a.defers } W) :
  (Code.rangeFunc g QH assign body).wpIn F n P QL a w:=by
 refine wpIn_rangeFunc ?_;intro fn ph;rw[Bk];obtain⟨b,d⟩:∃ b:LoopState->Option Code->Loop,b=fun st pe=>{ state:=st,pending:=pe,fn,tmps:=a.tmps,params:=QH,assign,body,defers:=w.heap.size }:=⟨_,rfl⟩
 obtain⟨i,QP⟩:∃ i,(w.alloc (.deferred (Q []))).alloc (.loop (b .ready Z))=i:=⟨_,rfl⟩
 have hs1:i.heap.size=w.heap.size+2:=by rw[<-QP];simp
 have DE:i.heap[w.heap.size+1]?=Q (.loop (b .ready Z)):=by rw[<-QP];have:=World.alloc_heap_new (w.alloc (.deferred (Q []))) (.loop (b .ready Z));rwa[World.size_alloc] at this
 have n9:i.heap[w.heap.size]?=Q (.deferred (Q [])):=by rw[<-QP];exact(Below.heap_alloc _ _ _ (by simp)).trans (World.alloc_heap_new w _)
 have fd:Below w.heap.size w i:=by rw[<-QP];exact((Below.refl _ w).alloc (Nat.le_refl _) _).alloc (by simp) _
 have ur:QO [] i:=V _ _ _ h0 fd;have ro:Below R.heap.size R i:=ld.trans (fd.mono ld.size)
 refine⟨w.heap.size+1,[{ target:=.collected w.heap.size,args:=#[] }],i,{ target:=.fn (.func gf) lb,args:=#[.func (.yield (w.heap.size+1)) #[] #[]] },i,gf,
  #[.func (.yield (w.heap.size+1)) #[] #[]]++lb,i,?_,?_,?_,?_,fun _=>h1,?_⟩
 ·rw[<-QP,d];exact run_enterLoop_outer _ _ _ _ _
 ·simp only[resolve,hg]
  simp[go_sem]
 ·intro f' mv;simp[Target.leads] at mv;subst mv;exact qr
 ·simp[invoke,go_sem,eg]
 ·refine(n6 (w.heap.size+1)
   (fun pre W=>QO pre W/\W.heap[w.heap.size+1]?=Q (.loop (b .ready Z))/\W.heap[w.heap.size]?=Q (.deferred (Q [])))
   (fun pre W=>∃ c,O c pre W/\W.heap[w.heap.size+1]?=Q (.loop (b .done (Q c)))/\W.heap[w.heap.size]?=Q (.deferred (Q [])))
   i ro
   (fun s A B M G=>⟨V s A B M.1 (G.mono (by omega)),(G.block _ (by omega)).trans M.2.1,(G.block _ (by omega)).trans M.2.2⟩)
   (fun s A B M G=>by
    obtain⟨c,hc,m,z⟩:=M
    exact⟨c,C c s A B hc (G.mono (by omega)),(G.block _ (by omega)).trans m,(G.block _ (by omega)).trans z⟩)
   ?_ ⟨ur,DE,n9⟩).mono ?_
  ·-- one round
   rintro pre x W n8 ⟨hi,m,z⟩ n7 _;have QK:w.heap.size+1<W.heap.size:=(Array.getElem?_eq_some_iff.1 m).1;have hy:=run_yield (P:=P) (args:=y x) m (by rw[d];exact At x);rw[d] at hy;refine⟨fn,_,assign,body,hy,roundIn_of_wpIn ph (L _ x W _ ⟨_,run_beginRound m (by rw[d]),?_⟩)⟩;have DA:(W.putObj (w.heap.size+1) (.loop { b .ready Z with state:=.busy })).heap[w.heap.size+1]?=Q (.loop { b .ready Z with state:=.busy }):=World.putObj_heap_same QK;have th:(W.putObj (w.heap.size+1) (.loop { b .ready Z with state:=.busy })).heap[w.heap.size]?=Q (.deferred (Q [])):=(World.putObj_heap_other (by omega)).trans z;have DQ:Upd (fun k=>base<=k/\k<i.heap.size) W (W.putObj (w.heap.size+1) (.loop { b .ready Z with state:=.busy })):=Upd.putObj _ ⟨by omega,by omega⟩ _;refine wpIn_mono (ex _ pre x _ n8 (V _ _ _ hi (dy _ (by omega) QK _)) n7 (by simp;omega)) ?_
   have fin:∀ (jump:Option Code) (j:E),Upd (fun k=>base<=k/\k<w.heap.size) (W.putObj (w.heap.size+1) (.loop { b .ready Z with state:=.busy })) j ->
     (Instr.endRound (w.heap.size+1) jump).run P j=.ok (QA jump.isNone) (j.putObj (w.heap.size+1) (.loop (b (if jump.isNone then .ready else .done) jump))) /\
     Below w.heap.size j (j.putObj (w.heap.size+1) (.loop (b (if jump.isNone then .ready else .done) jump))) /\
     (j.putObj (w.heap.size+1) (.loop (b (if jump.isNone then .ready else .done) jump))).heap[w.heap.size+1]?=Q (.loop (b (if jump.isNone then .ready else .done) jump)) /\
     (j.putObj (w.heap.size+1) (.loop (b (if jump.isNone then .ready else .done) jump))).heap[w.heap.size]?=Q (.deferred (Q [])):=fun jump j f=>by
    have la:=(f.block _ (by simpa using QK) (by omega)).trans DA;have h:=(f.block _ (by simp;omega) (by omega)).trans th;have QJ:=(Array.getElem?_eq_some_iff.1 la).1;have:=run_endRound (P:=P) jump la;rw[d] at this ⊢;exact⟨this,dy _ (by omega) QJ _,World.putObj_heap_same QJ,(World.putObj_heap_other (by omega)).trans h⟩
   rintro e a3 j QN;cases e with
   | normal =>obtain⟨f,q⟩:=QN;obtain⟨H,u,r,h⟩:=fin Z j f;exact⟨_,_,H,.inl ⟨rfl,⟨V _ _ _ q u,r,h⟩,(DQ.trans (f.mono (fun k z=>⟨z.1,by omega⟩))).trans (Upd.putObj _ ⟨by omega,by omega⟩ _)⟩⟩
   | ret =>obtain⟨f,q⟩:=QN;obtain⟨H,u,r,h⟩:=fin (Q .ret) j f;exact⟨_,_,H,.inr ⟨rfl,.ret,C _ _ _ _ q u,r,h⟩⟩
   | exit id =>obtain⟨f,q⟩:=QN;obtain⟨H,u,r,h⟩:=fin (Q (.exit id)) j f;exact⟨_,_,H,.inr ⟨rfl,.exit id,C _ _ _ _ q u,r,h⟩⟩
   | goto t =>obtain⟨f,q⟩:=QN;obtain⟨H,u,r,h⟩:=fin (Q (.goto t)) j f;exact⟨_,_,H,.inr ⟨rfl,.goto t,C _ _ _ _ q u,r,h⟩⟩
   | panic ch=>exact QN.elim
   | outgrown=>exact QN.elim
  ·rintro e W2 ⟨⟨v,rfl⟩,(⟨QG,hS,hi,m,z⟩ | ⟨pre,sm,c,hi,m,z⟩)⟩
   ·exact⟨Z,_,by have:=run_endLoop (P:=P) m (by rw[d];simp);rw[d] at this;exact this,bt _ QG _ (Nat.le_refl _) hS (V _ _ _ hi (dy _ (by omega) (Array.getElem?_eq_some_iff.1 m).1 _)) ((World.putObj_heap_other (by omega)).trans z)⟩
   ·exact⟨Q c,_,by have:=run_endLoop (P:=P) m (by rw[d];simp);rw[d] at this;exact this,aq _ c pre _ (Nat.le_refl _) sm (C _ _ _ _ hi (dy _ (by omega) (Array.getElem?_eq_some_iff.1 m).1 _)) ((World.putObj_heap_other (by omega)).trans z)⟩
def OfTy (w:E)(k:Nat)(e:QF):Prop:=∃ c z,w.heap[k]?=Q (.cells c e z)
theorem OfTy.eq {w b:E}{k:Nat}{e:QF}(h:OfTy w k e)(hb:b.heap[k]?=w.heap[k]?):OfTy b k e:=by obtain⟨c,z,h⟩:=h;exact⟨c,z,hb.trans h⟩
theorem OfTy.ne {w:E}{k:Nat}{e d:QF}(h:OfTy w k e)(f:d≠e):¬ OfTy w k d:=by
 obtain⟨c,z,h⟩:=h;rintro⟨c',z',b⟩;rw[h] at b;cases b
 exact f rfl
theorem OfTy.set {w:E}{k:Nat}{e:QF}(h:OfTy w k e)(p:Addr)(v:QB):OfTy (w.setCell p v) k e:=by
 obtain⟨c,z,h⟩:=h;by_cases b:p.block=k
 ·subst b
  have hlt:=(Array.getElem?_eq_some_iff.1 h).1;have he:=(Array.getElem?_eq_some_iff.1 h).2;exact⟨if p.spot.isSome=true then c else c.setIfInBounds p.off v,z,by simp[World.setCell,Array.getElem?_modify,h]⟩
 ·exact⟨c,z,(Below.heap_setCell _ _ _ _ (fun e=>b e.symm)).trans h⟩
theorem OfTy.new (w:E)(c:Array QB)(e:QF):OfTy (w.alloc (.cells c e)) w.heap.size e:=⟨c,_,World.alloc_heap_new w _⟩
structure Upd2 (QK:QF)(base n₀:Nat)(w w':E):Prop where
 os:w'.os=w.os
 tape:w'.tape=w.tape
 output:w'.output=w.output
 size:w.heap.size<=w'.heap.size
 block:∀ k,k<w.heap.size->(k<base∨(n₀<=k/\¬ OfTy w k QK))->w'.heap[k]?=w.heap[k]?
theorem Upd.two {b d:Nat}{w f:E}(h:Upd (fun k=>b<=k/\k<d) w f)(QK:QF):Upd2 QK b d w f:=⟨h.os,h.tape,h.output,h.size,fun k g hp=>h.block k g (by omega)⟩
theorem Upd2.below {QK:QF}{d f:Nat}{a b:E}(h:Upd2 QK d f a b)(hb:d<=a.heap.size):Below d a b:=⟨h.os,h.tape,h.output,h.size,fun k g=>h.block k (by omega) (.inl g)⟩
structure Itr (B:QF)(n:Nat)(w w':E):Prop where
 low:Below n w w'
 keep:∀ (k:Nat) (c:Array QB) (e:QF) (z:Nat × Nat),w.heap[k]?=Q (Obj.cells c e z)->e≠B->w'.heap[k]?=w.heap[k]?
theorem Itr.of_below {B:QF}{n m:Nat}{w b:E}(h:Below m w b)(f:w.heap.size<=m)(g:n<=m):Itr B n w b :=
 ⟨h.mono g,fun k _ _ _ d _=>h.block k (Nat.lt_of_lt_of_le (Array.getElem?_eq_some_iff.1 d).1 f)⟩
theorem Itr.setCell {B:QF}{n:Nat}(w:E){p:Addr}(i:n<=p.block)(g:OfTy w p.block B)(v:QB):Itr B n w (w.setCell p v) :=
 ⟨(Below.refl n w).setCell i v,fun k c e z f d=>Below.heap_setCell _ _ _ _ (fun h=>by
  obtain⟨c',z',b⟩:=g;rw[<-h,f] at b;cases b
  exact d rfl)⟩
def SeqT2 {d:Type}(QK B:QF)(F:Fence)(n:Nat)(P:Program)(g:Nat)(m:Array QB)(j:d->Array QB)(p:List d->d->Prop)(i:Nat)(S o:List d->Prop)(w:E):Prop :=
 ∀ (l:Nat) (QN h:List d->E->Prop) (W:E),Below w.heap.size w W->(∀ s A C,QN s A->Itr B W.heap.size A C->QN s C)->(∀ s A C,h s A->Itr B W.heap.size A C->h s C) ->
  (∀ pre x f,p pre x->QN pre f->W.heap.size<=f.heap.size->YieldAt F (n - 1) P l (j x) f fun e b =>
   (e=QD (QA true)/\QN (pre++[x]) b/\Upd2 QK i W.heap.size f b)∨(e=QD (QA false)/\h (pre++[x]) b)) ->
  QN [] W ->
  CallsIn F n P g (#[.func (.yield l) #[] #[]]++m) W fun e b=>(∃ v,e=QD v)/\((∃ k,S k/\QN k b)∨(∃ pre,o pre/\h pre b))
theorem YieldAt.mono2 {F:Fence}{m:Nat}{P:Program}{l:Nat}{args:Array QB}{W:E}{R b:Ending->E->Prop}(h:YieldAt F m P l args W R)(hR:∀ e d,R e d->b e d):YieldAt F m P l args W b:=by obtain⟨fn,tmps,assign,body,g,f⟩:=h;exact⟨fn,tmps,assign,body,g,f.mono hR⟩
theorem SeqT2.plain {d:Type}{QK B:QF}{F:Fence}{n:Nat}{P:Program}{g:Nat}{o:Array QB}{f:d->Array QB}{q:List d->d->Prop}{j:d->Prop}{i:Nat}{S p:List d->Prop}{QM:Nat}{w:E}(h:SeqT2 QK B F n P g o f q i S p w)(r:∀ pre x,q pre x->j x/\pre.length<QM):zz F n P g o f j i S p QM w :=
 fun l QN t W QQ y m QP H=>h l QN t W QQ (fun s A C k hi=>y s A C k hi.low) (fun s A C k hi=>m s A C k hi.low) (fun pre x z h1 h2 G=>YieldAt.mono2 (QP pre x z (r pre x h1).1 h2 (r pre x h1).2 G) fun _ _ u=>u.imp (fun⟨a,b,c⟩=>⟨a,b,c.two QK⟩) id) H
end Go.Proofs.YtkdimgejdocbbaaGreatDoor.Ca
