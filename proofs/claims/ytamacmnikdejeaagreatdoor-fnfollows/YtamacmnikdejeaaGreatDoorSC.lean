import Derived.RangeFuncKeeps
import Derived.RangeFuncFrom
open Option renaming none->Z,some->T
open Go renaming World->G,Value->QE
open Go.Value renaming bool->QC
open Go.Ending renaming returned->QF
namespace Go.Proofs.YtamacmnikdejeaaGreatDoor.Ca
open RowKit
structure Upd (P:Nat->Prop)(w w':G):Prop where
 os:w'.os=w.os
 tape:w'.tape=w.tape
 output:w'.output=w.output
 size:w.heap.size<=w'.heap.size
 block:∀ k,k<w.heap.size->¬ P k->w'.heap[k]?=w.heap[k]?
theorem Upd.refl (P:Nat->Prop)(w:G):Upd P w w:=⟨rfl,rfl,rfl,Nat.le_refl _,fun _ _ _=>rfl⟩
theorem Upd.trans {P:Nat->Prop}{a b c:G}(h:Upd P a b)(k:Upd P b c):Upd P a c :=
 ⟨k.os.trans h.os,k.tape.trans h.tape,k.output.trans h.output,Nat.le_trans h.size k.size,fun i hi f=>(k.block i (Nat.lt_of_lt_of_le hi h.size) f).trans (h.block i hi f)⟩
theorem Upd.mono {P QM:Nat->Prop}{a b:G}(h:Upd P a b)(f:∀ k,P k->QM k):Upd QM a b :=
 ⟨h.os,h.tape,h.output,h.size,fun i hi j=>h.block i hi (fun g=>j (f i g))⟩
theorem Upd.setCell {P:Nat->Prop}(w:G){p:Addr}(b:P p.block)(v:QE):Upd P w (w.setCell p v) :=
 ⟨rfl,rfl,rfl,by simp[World.setCell],fun k _ f=>Below.heap_setCell _ _ _ _ (fun e=>f (e ▸ b))⟩
theorem Upd.putObj {P:Nat->Prop}(w:G){l:Nat}(b:P l)(o:Obj):Upd P w (w.putObj l o) :=
 ⟨rfl,rfl,rfl,by simp,fun k _ f=>World.putObj_heap_other (fun e=>f (e ▸ b))⟩
theorem dC {n:Nat}(w:G){l:Nat}(hn:n<=l)(hl:l<w.heap.size)(o:Obj):Below n w (w.putObj l o) :=
 (Below.refl n w).grown (grownBy_putObj' w l o) (by omega) (fun k e=>by cases e;exact hn)
def zu {j:Type}(F:Fence)(n:Nat)(P:Program)(g:Nat)(t:Array QE)(m:j->Array QE)(q:j->Prop)(o:Nat)(S r:List j->Prop)(QN:Nat)(w:G):Prop :=
 ∀ (l:Nat) (QO i:List j->G->Prop) (W:G),Below w.heap.size w W->(∀ s A B,QO s A->Below W.heap.size A B->QO s B)->(∀ s A B,i s A->Below W.heap.size A B->i s B) ->
  (∀ b x h,q x->QO b h->b.length<QN->W.heap.size<=h.heap.size->YieldAt F (n - 1) P l (m x) h fun e f =>
   (e=QF (QC true)/\QO (b++[x]) f/\Upd (fun k=>o<=k/\k<W.heap.size) h f)∨(e=QF (QC false)/\i (b++[x]) f)) ->
  QO [] W ->
  CallsIn F n P g (#[.func (.yield l) #[] #[]]++t) W fun e f=>(∃ v,e=QF v)/\((∃ p,S p/\QO p f)∨(∃ b,r b/\i b f))
def EC {i:Type}(f b:Nat)(QP:List i->G->Prop)(h:Code->List i->G->Prop)(g:List i)(W:G):Exit->Act->G->Prop
 | .normal,_,W'=>Upd (fun k=>f<=k/\k<b) W W'/\QP g W'
 | .ret,_,W'=>Upd (fun k=>f<=k/\k<b) W W'/\h .ret g W'
 | .exit id,_,W'=>Upd (fun k=>f<=k/\k<b) W W'/\h (.exit id) g W'
 | .goto t,_,W'=>Upd (fun k=>f<=k/\k<b) W W'/\h (.goto t) g W'
 | .panic _,_,_=>False
 | .outgrown,_,_=>False
theorem iV {F:Fence}{n:Nat}{P:Program}{y:Type}{g:Operand}{ps:Array Tmp}{assign body:Code}{QM:Exit->Act->G->Prop}{a:Act}{w:G}
  (th:F.round=Z) (h1:1<=n) {gf:Nat} {lb:Array QE} (hg:a.eval g=.func (.func gf) #[] lb) (DQ:F.fn gf) (eg:∀ args w,(callFunc gf args).run P w=.ok (.enter gf args) w)
  {E:y->Array QE} {Ox:y->Prop} {base:Nat} {S Sp:List y->Prop} {QN:Nat} {QJ:G} (hbase:base<=w.heap.size) (n7:zu F (n - 1) P gf lb E Ox base S Sp QN QJ) (la:Below QJ.heap.size QJ w) (n9:∀ x,(E x).size=ps.size)
  (QP:List y->G->Prop) (QH:Code->List y->G->Prop) (X:∀ s A B,QP s A->Below w.heap.size A B->QP s B) (QR:∀ c s A B,QH c s A->Below w.heap.size A B->QH c s B) (h0:QP [] w) (QK:y->Act)
  (O:∀ (l:Nat) (x:y) (W:G) (K:Act->G->Prop),K (QK x) W ->
   assign.wpIn (F.inRound l) (n - 1 - 1) P (Exit.then K (fun _ _ _=>False)) { tmps:=(ps.zip (E x)).foldl (fun t (p,v)=>t.setIfInBounds p v) a.tmps,defers:=[] } W)
  (bt:∀ (l:Nat) (f:List y) (x:y) (W:G),Ox x->QP f W->f.length<QN->w.heap.size<=W.heap.size->body.wpIn (F.inRound l) (n - 1 - 1) P (EC base w.heap.size QP QH (f++[x]) W) (QK x) W)
  (ex:∀ (D:Nat) (xs:List y) (W:G),w.heap.size<=D->S xs->QP xs W->W.heap[D]?=T (.deferred (T []))->QM .normal { a with defers:={ target:=.collected D,args:=#[] } :: a.defers } W)
  (aq:∀ (D:Nat) (c:Code) (f:List y) (W:G),w.heap.size<=D->Sp f->QH c f W->W.heap[D]?=T (.deferred (T []))->c.wpIn F n P QM { a with defers:={ target:=.collected D,args:=#[] } :: a.defers } W) :
  (Code.rangeFunc g ps assign body).wpIn F n P QM a w:=by
 refine wpIn_rangeFunc ?_;intro fn sm;rw[th];obtain⟨b,h⟩:∃ b:LoopState->Option Code->Loop,b=fun st pe=>{ state:=st,pending:=pe,fn,tmps:=a.tmps,params:=ps,assign,body,defers:=w.heap.size }:=⟨_,rfl⟩
 obtain⟨o,H⟩:∃ o,(w.alloc (.deferred (T []))).alloc (.loop (b .ready Z))=o:=⟨_,rfl⟩
 have hs1:o.heap.size=w.heap.size+2:=by rw[<-H];simp
 have ur:o.heap[w.heap.size+1]?=T (.loop (b .ready Z)):=by rw[<-H];have:=World.alloc_heap_new (w.alloc (.deferred (T []))) (.loop (b .ready Z));rwa[World.size_alloc] at this
 have At:o.heap[w.heap.size]?=T (.deferred (T [])):=by rw[<-H];exact(Below.heap_alloc _ _ _ (by simp)).trans (World.alloc_heap_new w _)
 have ld:Below w.heap.size w o:=by rw[<-H];exact((Below.refl _ w).alloc (Nat.le_refl _) _).alloc (by simp) _
 have Bk:QP [] o:=X _ _ _ h0 ld;have n8:Below QJ.heap.size QJ o:=la.trans (ld.mono la.size)
 refine⟨w.heap.size+1,[{ target:=.collected w.heap.size,args:=#[] }],o,{ target:=.fn (.func gf) lb,args:=#[.func (.yield (w.heap.size+1)) #[] #[]] },o,gf,
  #[.func (.yield (w.heap.size+1)) #[] #[]]++lb,o,?_,?_,?_,?_,fun _=>h1,?_⟩
 ·rw[<-H,h];exact run_enterLoop_outer _ _ _ _ _
 ·simp only[resolve,hg]
  simp[go_sem]
 ·intro f' mv;simp[Target.leads] at mv;subst mv;exact DQ
 ·simp[invoke,go_sem,eg]
 ·refine(n7 (w.heap.size+1)
   (fun f W=>QP f W/\W.heap[w.heap.size+1]?=T (.loop (b .ready Z))/\W.heap[w.heap.size]?=T (.deferred (T [])))
   (fun f W=>∃ c,QH c f W/\W.heap[w.heap.size+1]?=T (.loop (b .done (T c)))/\W.heap[w.heap.size]?=T (.deferred (T [])))
   o n8
   (fun s A B R QO=>⟨X s A B R.1 (QO.mono (by omega)),(QO.block _ (by omega)).trans R.2.1,(QO.block _ (by omega)).trans R.2.2⟩)
   (fun s A B R QO=>by
    obtain⟨c,hc,r,C⟩:=R
    exact⟨c,QR c s A B hc (QO.mono (by omega)),(QO.block _ (by omega)).trans r,(QO.block _ (by omega)).trans C⟩)
   ?_ ⟨Bk,ur,At⟩).mono ?_
  ·-- one round
   rintro f x W CD ⟨hi,r,C⟩ n6 _;have V:w.heap.size+1<W.heap.size:=(Array.getElem?_eq_some_iff.1 r).1;have hy:=run_yield (P:=P) (args:=E x) r (by rw[h];exact n9 x);rw[h] at hy;refine⟨fn,_,assign,body,hy,roundIn_of_wpIn sm (O _ x W _ ⟨_,run_beginRound r (by rw[h]),?_⟩)⟩;have qr:(W.putObj (w.heap.size+1) (.loop { b .ready Z with state:=.busy })).heap[w.heap.size+1]?=T (.loop { b .ready Z with state:=.busy }):=World.putObj_heap_same V;have ro:(W.putObj (w.heap.size+1) (.loop { b .ready Z with state:=.busy })).heap[w.heap.size]?=T (.deferred (T [])):=(World.putObj_heap_other (by omega)).trans C;have DE:Upd (fun k=>base<=k/\k<o.heap.size) W (W.putObj (w.heap.size+1) (.loop { b .ready Z with state:=.busy })):=Upd.putObj _ ⟨by omega,by omega⟩ _;refine wpIn_mono (bt _ f x _ CD (X _ _ _ hi (dC _ (by omega) V _)) n6 (by simp;omega)) ?_
   have fin:∀ (jump:Option Code) (m:G),Upd (fun k=>base<=k/\k<w.heap.size) (W.putObj (w.heap.size+1) (.loop { b .ready Z with state:=.busy })) m ->
     (Instr.endRound (w.heap.size+1) jump).run P m=.ok (QC jump.isNone) (m.putObj (w.heap.size+1) (.loop (b (if jump.isNone then .ready else .done) jump))) /\
     Below w.heap.size m (m.putObj (w.heap.size+1) (.loop (b (if jump.isNone then .ready else .done) jump))) /\
     (m.putObj (w.heap.size+1) (.loop (b (if jump.isNone then .ready else .done) jump))).heap[w.heap.size+1]?=T (.loop (b (if jump.isNone then .ready else .done) jump)) /\
     (m.putObj (w.heap.size+1) (.loop (b (if jump.isNone then .ready else .done) jump))).heap[w.heap.size]?=T (.deferred (T [])):=fun jump m i=>by
    have fd:=(i.block _ (by simpa using V) (by omega)).trans qr;have j:=(i.block _ (by simp;omega) (by omega)).trans ro;have QL:=(Array.getElem?_eq_some_iff.1 fd).1;have:=run_endRound (P:=P) jump fd;rw[h] at this ⊢;exact⟨this,dC _ (by omega) QL _,World.putObj_heap_same QL,(World.putObj_heap_other (by omega)).trans j⟩
   rintro e a3 m M;cases e with
   | normal =>obtain⟨i,z⟩:=M;obtain⟨L,u,q,j⟩:=fin Z m i;exact⟨_,_,L,.inl ⟨rfl,⟨X _ _ _ z u,q,j⟩,(DE.trans (i.mono (fun k C=>⟨C.1,by omega⟩))).trans (Upd.putObj _ ⟨by omega,by omega⟩ _)⟩⟩
   | ret =>obtain⟨i,z⟩:=M;obtain⟨L,u,q,j⟩:=fin (T .ret) m i;exact⟨_,_,L,.inr ⟨rfl,.ret,QR _ _ _ _ z u,q,j⟩⟩
   | exit id =>obtain⟨i,z⟩:=M;obtain⟨L,u,q,j⟩:=fin (T (.exit id)) m i;exact⟨_,_,L,.inr ⟨rfl,.exit id,QR _ _ _ _ z u,q,j⟩⟩
   | goto t =>obtain⟨i,z⟩:=M;obtain⟨L,u,q,j⟩:=fin (T (.goto t)) m i;exact⟨_,_,L,.inr ⟨rfl,.goto t,QR _ _ _ _ z u,q,j⟩⟩
   | panic ch=>exact M.elim
   | outgrown=>exact M.elim
  ·rintro e W2 ⟨⟨v,rfl⟩,(⟨xs,hS,hi,r,C⟩ | ⟨f,ph,c,hi,r,C⟩)⟩
   ·exact⟨Z,_,by have:=run_endLoop (P:=P) r (by rw[h];simp);rw[h] at this;exact this,ex _ xs _ (Nat.le_refl _) hS (X _ _ _ hi (dC _ (by omega) (Array.getElem?_eq_some_iff.1 r).1 _)) ((World.putObj_heap_other (by omega)).trans C)⟩
   ·exact⟨T c,_,by have:=run_endLoop (P:=P) r (by rw[h];simp);rw[h] at this;exact this,aq _ c f _ (Nat.le_refl _) ph (QR _ _ _ _ hi (dC _ (by omega) (Array.getElem?_eq_some_iff.1 r).1 _)) ((World.putObj_heap_other (by omega)).trans C)⟩
def OfTy (w:G)(k:Nat)(e:TypeId):Prop:=∃ c z,w.heap[k]?=T (.cells c e z)
theorem OfTy.eq {w b:G}{k:Nat}{e:TypeId}(h:OfTy w k e)(hb:b.heap[k]?=w.heap[k]?):OfTy b k e:=by obtain⟨c,z,h⟩:=h;exact⟨c,z,hb.trans h⟩
theorem OfTy.ne {w:G}{k:Nat}{e b:TypeId}(h:OfTy w k e)(hn:b≠e):¬ OfTy w k b:=by
 obtain⟨c,z,h⟩:=h;rintro⟨c',z',f⟩;rw[h] at f;cases f
 exact hn rfl
theorem OfTy.set {w:G}{k:Nat}{e:TypeId}(h:OfTy w k e)(p:Addr)(v:QE):OfTy (w.setCell p v) k e:=by
 obtain⟨c,z,h⟩:=h;by_cases b:p.block=k
 ·subst b
  have hlt:=(Array.getElem?_eq_some_iff.1 h).1;have he:=(Array.getElem?_eq_some_iff.1 h).2;exact⟨if p.spot.isSome=true then c else c.setIfInBounds p.off v,z,by simp[World.setCell,Array.getElem?_modify,h]⟩
 ·exact⟨c,z,(Below.heap_setCell _ _ _ _ (fun e=>b e.symm)).trans h⟩
theorem OfTy.new (w:G)(c:Array QE)(e:TypeId):OfTy (w.alloc (.cells c e)) w.heap.size e:=⟨c,_,World.alloc_heap_new w _⟩
structure Upd2 (QL:TypeId)(base n₀:Nat)(w w':G):Prop where
 os:w'.os=w.os
 tape:w'.tape=w.tape
 output:w'.output=w.output
 size:w.heap.size<=w'.heap.size
 block:∀ k,k<w.heap.size->(k<base∨(n₀<=k/\¬ OfTy w k QL))->w'.heap[k]?=w.heap[k]?
theorem Upd.two {f b:Nat}{w g:G}(h:Upd (fun k=>f<=k/\k<b) w g)(QL:TypeId):Upd2 QL f b w g:=⟨h.os,h.tape,h.output,h.size,fun k i hp=>h.block k i (by omega)⟩
theorem Upd2.below {QL:TypeId}{f g:Nat}{a b:G}(h:Upd2 QL f g a b)(hb:f<=a.heap.size):Below f a b:=⟨h.os,h.tape,h.output,h.size,fun k i=>h.block k (by omega) (.inl i)⟩
structure Itr (B:TypeId)(n:Nat)(w w':G):Prop where
 low:Below n w w'
 keep:∀ (k:Nat) (c:Array QE) (e:TypeId) (z:Nat × Nat),w.heap[k]?=T (Obj.cells c e z)->e≠B->w'.heap[k]?=w.heap[k]?
theorem Itr.of_below {B:TypeId}{n m:Nat}{w b:G}(h:Below m w b)(f:w.heap.size<=m)(hn:n<=m):Itr B n w b :=
 ⟨h.mono hn,fun k _ _ _ g _=>h.block k (Nat.lt_of_lt_of_le (Array.getElem?_eq_some_iff.1 g).1 f)⟩
theorem Itr.setCell {B:TypeId}{n:Nat}(w:G){p:Addr}(hn:n<=p.block)(g:OfTy w p.block B)(v:QE):Itr B n w (w.setCell p v) :=
 ⟨(Below.refl n w).setCell hn v,fun k c e z f i=>Below.heap_setCell _ _ _ _ (fun h=>by
  obtain⟨c',z',b⟩:=g;rw[<-h,f] at b;cases b
  exact i rfl)⟩
def SeqT2 {h:Type}(QL B:TypeId)(F:Fence)(n:Nat)(P:Program)(g:Nat)(t:Array QE)(m:h->Array QE)(q:List h->h->Prop)(o:Nat)(S r:List h->Prop)(w:G):Prop :=
 ∀ (l:Nat) (QO j:List h->G->Prop) (W:G),Below w.heap.size w W->(∀ s A C,QO s A->Itr B W.heap.size A C->QO s C)->(∀ s A C,j s A->Itr B W.heap.size A C->j s C) ->
  (∀ b x i,q b x->QO b i->W.heap.size<=i.heap.size->YieldAt F (n - 1) P l (m x) i fun e f =>
   (e=QF (QC true)/\QO (b++[x]) f/\Upd2 QL o W.heap.size i f)∨(e=QF (QC false)/\j (b++[x]) f)) ->
  QO [] W ->
  CallsIn F n P g (#[.func (.yield l) #[] #[]]++t) W fun e f=>(∃ v,e=QF v)/\((∃ p,S p/\QO p f)∨(∃ b,r b/\j b f))
theorem YieldAt.mono2 {F:Fence}{m:Nat}{P:Program}{l:Nat}{args:Array QE}{W:G}{R f:Ending->G->Prop}(h:YieldAt F m P l args W R)(hR:∀ e b,R e b->f e b):YieldAt F m P l args W f:=by obtain⟨fn,tmps,assign,body,i,g⟩:=h;exact⟨fn,tmps,assign,body,i,g.mono hR⟩
theorem SeqT2.plain {i:Type}{QL B:TypeId}{F:Fence}{n:Nat}{P:Program}{g:Nat}{u:Array QE}{j:i->Array QE}{q:List i->i->Prop}{o:i->Prop}{m:Nat}{S r:List i->Prop}{QN:Nat}{w:G}(h:SeqT2 QL B F n P g u j q m S r w)(y:∀ f x,q f x->o x/\f.length<QN):zu F n P g u j o m S r QN w :=
 fun l QO E W L H t D QR=>h l QO E W L (fun s A C p hi=>H s A C p hi.low) (fun s A C p hi=>t s A C p hi.low) (fun f x K h1 h2 z=>YieldAt.mono2 (D f x K (y f x h1).1 h2 (y f x h1).2 z) fun _ _ QP=>QP.imp (fun⟨a,b,c⟩=>⟨a,b,c.two QL⟩) id) QR
end Go.Proofs.YtamacmnikdejeaaGreatDoor.Ca
