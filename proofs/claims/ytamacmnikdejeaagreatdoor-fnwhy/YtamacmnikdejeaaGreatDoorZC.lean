import Derived.RangeFuncKeeps
import Derived.RangeFuncFrom
open Option renaming none->Z,some->N
open Go renaming World->H,Value->QS
open Go.Value renaming bool->QT
open Go.Ending renaming returned->QU
namespace Go.Proofs.YtamacmnikdejeaaGreatDoor.Ca
open RowKit
structure Upd (P:Nat->Prop)(w w':H):Prop where
 os:w'.os=w.os
 tape:w'.tape=w.tape
 output:w'.output=w.output
 size:w.heap.size<=w'.heap.size
 block:∀ k,k<w.heap.size->¬ P k->w'.heap[k]?=w.heap[k]?
theorem Upd.refl (P:Nat->Prop)(w:H):Upd P w w:=⟨rfl,rfl,rfl,Nat.le_refl _,fun _ _ _=>rfl⟩
theorem Upd.trans {P:Nat->Prop}{a b c:H}(h:Upd P a b)(k:Upd P b c):Upd P a c :=
 ⟨k.os.trans h.os,k.tape.trans h.tape,k.output.trans h.output,Nat.le_trans h.size k.size,fun i hi f=>(k.block i (Nat.lt_of_lt_of_le hi h.size) f).trans (h.block i hi f)⟩
theorem Upd.mono {P Q0:Nat->Prop}{a b:H}(h:Upd P a b)(c:∀ k,P k->Q0 k):Upd Q0 a b :=
 ⟨h.os,h.tape,h.output,h.size,fun i hi f=>h.block i hi (fun g=>f (c i g))⟩
theorem Upd.setCell {P:Nat->Prop}(w:H){p:Addr}(c:P p.block)(v:QS):Upd P w (w.setCell p v) :=
 ⟨rfl,rfl,rfl,by simp[World.setCell],fun k _ b=>Below.heap_setCell _ _ _ _ (fun e=>b (e ▸ c))⟩
theorem Upd.putObj {P:Nat->Prop}(w:H){l:Nat}(c:P l)(o:Obj):Upd P w (w.putObj l o) :=
 ⟨rfl,rfl,rfl,by simp,fun k _ b=>World.putObj_heap_other (fun e=>b (e ▸ c))⟩
theorem dS {n:Nat}(w:H){l:Nat}(hn:n<=l)(hl:l<w.heap.size)(o:Obj):Below n w (w.putObj l o) :=
 (Below.refl n w).grown (grownBy_putObj' w l o) (by omega) (fun k e=>by cases e;exact hn)
def AQ {h:Type}(F:Fence)(n:Nat)(P:Program)(g:Nat)(q:Array QS)(j:h->Array QS)(r:h->Prop)(m:Nat)(S p:List h->Prop)(QZ:Nat)(w:H):Prop :=
 ∀ (l:Nat) (Q9 i:List h->H->Prop) (W:H),Below w.heap.size w W->(∀ s A B,Q9 s A->Below W.heap.size A B->Q9 s B)->(∀ s A B,i s A->Below W.heap.size A B->i s B) ->
  (∀ b x f,r x->Q9 b f->b.length<QZ->W.heap.size<=f.heap.size->YieldAt F (n - 1) P l (j x) f fun e c =>
   (e=QU (QT true)/\Q9 (b++[x]) c/\Upd (fun k=>m<=k/\k<W.heap.size) f c)∨(e=QU (QT false)/\i (b++[x]) c)) ->
  Q9 [] W ->
  CallsIn F n P g (#[.func (.yield l) #[] #[]]++q) W fun e c=>(∃ v,e=QU v)/\((∃ o,S o/\Q9 o c)∨(∃ b,p b/\i b c))
def Gk {g:Type}(b c:Nat)(ZA:List g->H->Prop)(h:Code->List g->H->Prop)(f:List g)(W:H):Exit->Act->H->Prop
 | .normal,_,W'=>Upd (fun k=>b<=k/\k<c) W W'/\ZA f W'
 | .ret,_,W'=>Upd (fun k=>b<=k/\k<c) W W'/\h .ret f W'
 | .exit id,_,W'=>Upd (fun k=>b<=k/\k<c) W W'/\h (.exit id) f W'
 | .goto t,_,W'=>Upd (fun k=>b<=k/\k<c) W W'/\h (.goto t) f W'
 | .panic _,_,_=>False
 | .outgrown,_,_=>False
theorem ju {F:Fence}{n:Nat}{P:Program}{r:Type}{g:Operand}{ps:Array Tmp}{assign body:Code}{Q0:Exit->Act->H->Prop}{a:Act}{w:H}
  (Fn:F.round=Z) (h1:1<=n) {gf:Nat} {lb:Array QS} (hg:a.eval g=.func (.func gf) #[] lb) (Fk:F.fn gf) (eg:∀ args w,(callFunc gf args).run P w=.ok (.enter gf args) w)
  {G:r->Array QS} {Ox:r->Prop} {base:Nat} {S Sp:List r->Prop} {QZ:Nat} {QW:H} (hbase:base<=w.heap.size) (n9:AQ F (n - 1) P gf lb G Ox base S Sp QZ QW) (la:Below QW.heap.size QW w) (qr:∀ x,(G x).size=ps.size)
  (ZA:List r->H->Prop) (QX:Code->List r->H->Prop) (hI:∀ s A B,ZA s A->Below w.heap.size A B->ZA s B) (Q9:∀ c s A B,QX c s A->Below w.heap.size A B->QX c s B) (h0:ZA [] w) (Q2:r->Act)
  (O:∀ (l:Nat) (x:r) (W:H) (K:Act->H->Prop),K (Q2 x) W ->
   assign.wpIn (F.inRound l) (n - 1 - 1) P (Exit.then K (fun _ _ _=>False)) { tmps:=(ps.zip (G x)).foldl (fun t (p,v)=>t.setIfInBounds p v) a.tmps,defers:=[] } W)
  (aq:∀ (l:Nat) (h:List r) (x:r) (W:H),Ox x->ZA h W->h.length<QZ->w.heap.size<=W.heap.size->body.wpIn (F.inRound l) (n - 1 - 1) P (Gk base w.heap.size ZA QX (h++[x]) W) (Q2 x) W)
  (fd:∀ (D:Nat) (xs:List r) (W:H),w.heap.size<=D->S xs->ZA xs W->W.heap[D]?=N (.deferred (N []))->Q0 .normal { a with defers:={ target:=.collected D,args:=#[] } :: a.defers } W)
  (bt:∀ (D:Nat) (c:Code) (h:List r) (W:H),w.heap.size<=D->Sp h->QX c h W->W.heap[D]?=N (.deferred (N []))->c.wpIn F n P Q0 { a with defers:={ target:=.collected D,args:=#[] } :: a.defers } W) :
  (Code.rangeFunc g ps assign body).wpIn F n P Q0 a w:=by
 refine wpIn_rangeFunc ?_;intro fn ur;rw[Fn];obtain⟨f,i⟩:∃ f:LoopState->Option Code->Loop,f=fun st pe=>{ state:=st,pending:=pe,fn,tmps:=a.tmps,params:=ps,assign,body,defers:=w.heap.size }:=⟨_,rfl⟩
 obtain⟨q,ZB⟩:∃ q,(w.alloc (.deferred (N []))).alloc (.loop (f .ready Z))=q:=⟨_,rfl⟩
 have hs1:q.heap.size=w.heap.size+2:=by rw[<-ZB];simp
 have DQ:q.heap[w.heap.size+1]?=N (.loop (f .ready Z)):=by rw[<-ZB];have:=World.alloc_heap_new (w.alloc (.deferred (N []))) (.loop (f .ready Z));rwa[World.size_alloc] at this
 have Fm:q.heap[w.heap.size]?=N (.deferred (N [])):=by rw[<-ZB];exact(Below.heap_alloc _ _ _ (by simp)).trans (World.alloc_heap_new w _)
 have ld:Below w.heap.size w q:=by rw[<-ZB];exact((Below.refl _ w).alloc (Nat.le_refl _) _).alloc (by simp) _
 have DE:ZA [] q:=hI _ _ _ h0 ld;have ro:Below QW.heap.size QW q:=la.trans (ld.mono la.size)
 refine⟨w.heap.size+1,[{ target:=.collected w.heap.size,args:=#[] }],q,{ target:=.fn (.func gf) lb,args:=#[.func (.yield (w.heap.size+1)) #[] #[]] },q,gf,
  #[.func (.yield (w.heap.size+1)) #[] #[]]++lb,q,?_,?_,?_,?_,fun _=>h1,?_⟩
 ·rw[<-ZB,i];exact run_enterLoop_outer _ _ _ _ _
 ·simp only[resolve,hg]
  simp[go_sem]
 ·intro f' mv;simp[Target.leads] at mv;subst mv;exact Fk
 ·simp[invoke,go_sem,eg]
 ·refine(n9 (w.heap.size+1)
   (fun h W=>ZA h W/\W.heap[w.heap.size+1]?=N (.loop (f .ready Z))/\W.heap[w.heap.size]?=N (.deferred (N [])))
   (fun h W=>∃ c,QX c h W/\W.heap[w.heap.size+1]?=N (.loop (f .done (N c)))/\W.heap[w.heap.size]?=N (.deferred (N [])))
   q ro
   (fun s A B X M=>⟨hI s A B X.1 (M.mono (by omega)),(M.block _ (by omega)).trans X.2.1,(M.block _ (by omega)).trans X.2.2⟩)
   (fun s A B X M=>by
    obtain⟨c,hc,z,E⟩:=X
    exact⟨c,Q9 c s A B hc (M.mono (by omega)),(M.block _ (by omega)).trans z,(M.block _ (by omega)).trans E⟩)
   ?_ ⟨DE,DQ,Fm⟩).mono ?_
  ·-- one round
   rintro h x W At ⟨hi,z,E⟩ ph _;have V:w.heap.size+1<W.heap.size:=(Array.getElem?_eq_some_iff.1 z).1;have hy:=run_yield (P:=P) (args:=G x) z (by rw[i];exact qr x);rw[i] at hy;refine⟨fn,_,assign,body,hy,roundIn_of_wpIn ur (O _ x W _ ⟨_,run_beginRound z (by rw[i]),?_⟩)⟩;have Bk:(W.putObj (w.heap.size+1) (.loop { f .ready Z with state:=.busy })).heap[w.heap.size+1]?=N (.loop { f .ready Z with state:=.busy }):=World.putObj_heap_same V;have th:(W.putObj (w.heap.size+1) (.loop { f .ready Z with state:=.busy })).heap[w.heap.size]?=N (.deferred (N [])):=(World.putObj_heap_other (by omega)).trans E;have sm:Upd (fun k=>base<=k/\k<q.heap.size) W (W.putObj (w.heap.size+1) (.loop { f .ready Z with state:=.busy })):=Upd.putObj _ ⟨by omega,by omega⟩ _;refine wpIn_mono (aq _ h x _ At (hI _ _ _ hi (dS _ (by omega) V _)) ph (by simp;omega)) ?_
   have fin:∀ (b:Option Code) (o:H),Upd (fun k=>base<=k/\k<w.heap.size) (W.putObj (w.heap.size+1) (.loop { f .ready Z with state:=.busy })) o ->
     (Instr.endRound (w.heap.size+1) b).run P o=.ok (QT b.isNone) (o.putObj (w.heap.size+1) (.loop (f (if b.isNone then .ready else .done) b))) /\
     Below w.heap.size o (o.putObj (w.heap.size+1) (.loop (f (if b.isNone then .ready else .done) b))) /\
     (o.putObj (w.heap.size+1) (.loop (f (if b.isNone then .ready else .done) b))).heap[w.heap.size+1]?=N (.loop (f (if b.isNone then .ready else .done) b)) /\
     (o.putObj (w.heap.size+1) (.loop (f (if b.isNone then .ready else .done) b))).heap[w.heap.size]?=N (.deferred (N [])):=fun b o j=>by
    have n8:=(j.block _ (by simpa using V) (by omega)).trans Bk;have m:=(j.block _ (by simp;omega) (by omega)).trans th;have QY:=(Array.getElem?_eq_some_iff.1 n8).1;have:=run_endRound (P:=P) b n8;rw[i] at this ⊢;exact⟨this,dS _ (by omega) QY _,World.putObj_heap_same QY,(World.putObj_heap_other (by omega)).trans m⟩
   rintro e a3 o R;cases e with
   | normal =>obtain⟨j,y⟩:=R;obtain⟨L,C,u,m⟩:=fin Z o j;exact⟨_,_,L,.inl ⟨rfl,⟨hI _ _ _ y C,u,m⟩,(sm.trans (j.mono (fun k E=>⟨E.1,by omega⟩))).trans (Upd.putObj _ ⟨by omega,by omega⟩ _)⟩⟩
   | ret =>obtain⟨j,y⟩:=R;obtain⟨L,C,u,m⟩:=fin (N .ret) o j;exact⟨_,_,L,.inr ⟨rfl,.ret,Q9 _ _ _ _ y C,u,m⟩⟩
   | exit id =>obtain⟨j,y⟩:=R;obtain⟨L,C,u,m⟩:=fin (N (.exit id)) o j;exact⟨_,_,L,.inr ⟨rfl,.exit id,Q9 _ _ _ _ y C,u,m⟩⟩
   | goto t =>obtain⟨j,y⟩:=R;obtain⟨L,C,u,m⟩:=fin (N (.goto t)) o j;exact⟨_,_,L,.inr ⟨rfl,.goto t,Q9 _ _ _ _ y C,u,m⟩⟩
   | panic ch=>exact R.elim
   | outgrown=>exact R.elim
  ·rintro e W2 ⟨⟨v,rfl⟩,(⟨xs,hS,hi,z,E⟩ | ⟨h,Fd,c,hi,z,E⟩)⟩
   ·exact⟨Z,_,by have:=run_endLoop (P:=P) z (by rw[i];simp);rw[i] at this;exact this,fd _ xs _ (Nat.le_refl _) hS (hI _ _ _ hi (dS _ (by omega) (Array.getElem?_eq_some_iff.1 z).1 _)) ((World.putObj_heap_other (by omega)).trans E)⟩
   ·exact⟨N c,_,by have:=run_endLoop (P:=P) z (by rw[i];simp);rw[i] at this;exact this,bt _ c h _ (Nat.le_refl _) Fd (Q9 _ _ _ _ hi (dS _ (by omega) (Array.getElem?_eq_some_iff.1 z).1 _)) ((World.putObj_heap_other (by omega)).trans E)⟩
def OfTy (w:H)(k:Nat)(e:TypeId):Prop:=∃ c z,w.heap[k]?=N (.cells c e z)
theorem OfTy.eq {w b:H}{k:Nat}{e:TypeId}(h:OfTy w k e)(hb:b.heap[k]?=w.heap[k]?):OfTy b k e:=by obtain⟨c,z,h⟩:=h;exact⟨c,z,hb.trans h⟩
theorem OfTy.ne {w:H}{k:Nat}{e b:TypeId}(h:OfTy w k e)(hn:b≠e):¬ OfTy w k b:=by
 obtain⟨c,z,h⟩:=h;rintro⟨c',z',f⟩;rw[h] at f;cases f
 exact hn rfl
theorem OfTy.set {w:H}{k:Nat}{e:TypeId}(h:OfTy w k e)(p:Addr)(v:QS):OfTy (w.setCell p v) k e:=by
 obtain⟨c,z,h⟩:=h;by_cases b:p.block=k
 ·subst b
  have hlt:=(Array.getElem?_eq_some_iff.1 h).1;have he:=(Array.getElem?_eq_some_iff.1 h).2;exact⟨if p.spot.isSome=true then c else c.setIfInBounds p.off v,z,by simp[World.setCell,Array.getElem?_modify,h]⟩
 ·exact⟨c,z,(Below.heap_setCell _ _ _ _ (fun e=>b e.symm)).trans h⟩
theorem OfTy.new (w:H)(c:Array QS)(e:TypeId):OfTy (w.alloc (.cells c e)) w.heap.size e:=⟨c,_,World.alloc_heap_new w _⟩
structure Upd2 (Q2:TypeId)(base n₀:Nat)(w w':H):Prop where
 os:w'.os=w.os
 tape:w'.tape=w.tape
 output:w'.output=w.output
 size:w.heap.size<=w'.heap.size
 block:∀ k,k<w.heap.size->(k<base∨(n₀<=k/\¬ OfTy w k Q2))->w'.heap[k]?=w.heap[k]?
theorem Upd.two {b c:Nat}{w f:H}(h:Upd (fun k=>b<=k/\k<c) w f)(Q2:TypeId):Upd2 Q2 b c w f:=⟨h.os,h.tape,h.output,h.size,fun k g hp=>h.block k g (by omega)⟩
theorem Upd2.below {Q2:TypeId}{c f:Nat}{a b:H}(h:Upd2 Q2 c f a b)(hb:c<=a.heap.size):Below c a b:=⟨h.os,h.tape,h.output,h.size,fun k g=>h.block k (by omega) (.inl g)⟩
structure Itr (B:TypeId)(n:Nat)(w w':H):Prop where
 low:Below n w w'
 keep:∀ (k:Nat) (c:Array QS) (e:TypeId) (z:Nat × Nat),w.heap[k]?=N (Obj.cells c e z)->e≠B->w'.heap[k]?=w.heap[k]?
theorem Itr.of_below {B:TypeId}{n m:Nat}{w b:H}(h:Below m w b)(f:w.heap.size<=m)(hn:n<=m):Itr B n w b :=
 ⟨h.mono hn,fun k _ _ _ c _=>h.block k (Nat.lt_of_lt_of_le (Array.getElem?_eq_some_iff.1 c).1 f)⟩
theorem Itr.setCell {B:TypeId}{n:Nat}(w:H){p:Addr}(hn:n<=p.block)(g:OfTy w p.block B)(v:QS):Itr B n w (w.setCell p v) :=
 ⟨(Below.refl n w).setCell hn v,fun k c e z f i=>Below.heap_setCell _ _ _ _ (fun h=>by
  obtain⟨c',z',b⟩:=g;rw[<-h,f] at b;cases b
  exact i rfl)⟩
def SeqT2 {f:Type}(Q2 B:TypeId)(F:Fence)(n:Nat)(P:Program)(g:Nat)(q:Array QS)(j:f->Array QS)(r:List f->f->Prop)(m:Nat)(S p:List f->Prop)(w:H):Prop :=
 ∀ (l:Nat) (Q9 i:List f->H->Prop) (W:H),Below w.heap.size w W->(∀ s A C,Q9 s A->Itr B W.heap.size A C->Q9 s C)->(∀ s A C,i s A->Itr B W.heap.size A C->i s C) ->
  (∀ b x h,r b x->Q9 b h->W.heap.size<=h.heap.size->YieldAt F (n - 1) P l (j x) h fun e c =>
   (e=QU (QT true)/\Q9 (b++[x]) c/\Upd2 Q2 m W.heap.size h c)∨(e=QU (QT false)/\i (b++[x]) c)) ->
  Q9 [] W ->
  CallsIn F n P g (#[.func (.yield l) #[] #[]]++q) W fun e c=>(∃ v,e=QU v)/\((∃ o,S o/\Q9 o c)∨(∃ b,p b/\i b c))
theorem YieldAt.mono2 {F:Fence}{m:Nat}{P:Program}{l:Nat}{args:Array QS}{W:H}{R b:Ending->H->Prop}(h:YieldAt F m P l args W R)(hR:∀ e c,R e c->b e c):YieldAt F m P l args W b:=by obtain⟨fn,tmps,assign,body,g,f⟩:=h;exact⟨fn,tmps,assign,body,g,f.mono hR⟩
theorem SeqT2.plain {i:Type}{Q2 B:TypeId}{F:Fence}{n:Nat}{P:Program}{g:Nat}{u:Array QS}{j:i->Array QS}{y:List i->i->Prop}{o:i->Prop}{m:Nat}{S r:List i->Prop}{QZ:Nat}{w:H}(h:SeqT2 Q2 B F n P g u j y m S r w)(q:∀ f x,y f x->o x/\f.length<QZ):AQ F n P g u j o m S r QZ w :=
 fun l Q9 D W z ZA t K L=>h l Q9 D W z (fun s A C p hi=>ZA s A C p hi.low) (fun s A C p hi=>t s A C p hi.low) (fun f x ZB h1 h2 G=>YieldAt.mono2 (K f x ZB (q f x h1).1 h2 (q f x h1).2 G) fun _ _ E=>E.imp (fun⟨a,b,c⟩=>⟨a,b,c.two Q2⟩) id) L
end Go.Proofs.YtamacmnikdejeaaGreatDoor.Ca
