import Derived.RangeFuncKeeps
import Derived.RangeFuncFrom
open Option renaming none->U,some->T
open Go renaming World->M,Value->ZC,TypeId->ZH,Value.bool->ZD,Ending.returned->ZF,World.heap->J
open Bool renaming false->ZA,true->ZG
open Array renaming size->I
namespace Go.Proofs.YtpmnbjkjpnclaaaGreatDoor.Ca
open RowKit
variable {w b a:M}{n bx l m gf ZO c:Nat}{P:Nat->Prop}{F:Fence}{e B ZL:ZH}{p:Addr}{g:Operand}{ps:Array Tmp}{assign body:Code}{ZM:Exit->Act->M->Prop}{lb:Array ZC}
structure Upd (P:Nat->Prop)(w w':M):Prop where
 os:w'.os=w.os
 tape:w'.tape=w.tape
 output:w'.output=w.output
 size:I (J w)<=I (J w')
 block:∀k,k<I (J w)->¬ P k->w'.heap[k]?=w.heap[k]?
theorem Upd.refl (P:Nat->Prop)(w:M):Upd P w w:=⟨rfl,rfl,rfl,Nat.le_refl _,λ_ _ _=>rfl⟩
theorem Upd.trans{c:M}(h:Upd P a b)(k:Upd P b c):Upd P a c :=
 ⟨k.os.trans h.os,k.tape.trans h.tape,k.output.trans h.output,Nat.le_trans h.size k.size,λi hi f=>(k.block i (Nat.lt_of_lt_of_le hi h.size) f).trans (h.block i hi f)⟩
theorem Upd.mono{ZM:Nat->Prop}(h:Upd P a b)(c:∀k,P k->ZM k):Upd ZM a b :=
 ⟨h.os,h.tape,h.output,h.size,λi hi f=>h.block i hi (λg=>f (c i g))⟩
theorem Upd.setCell (w:M)(b:P p.block)(v:ZC):Upd P w (w.setCell p v) :=
 ⟨rfl,rfl,rfl,by simp[World.setCell],λk _ c=>Below.heap_setCell _ _ _ _ (λe=>c (e ▸ b))⟩
theorem Upd.putObj (w:M)(b:P l)(o:Obj):Upd P w (w.putObj l o) :=
 ⟨rfl,rfl,rfl,by simp,λk _ c=>World.putObj_heap_other (λe=>c (e ▸ b))⟩
theorem da (w:M)(hn:n<=l)(hl:l<I (J w))(o:Obj):Below n w (w.putObj l o) :=
 (Below.refl n w).grown (grownBy_putObj' w l o) (by omega) (λk e=>by cases e;exact hn)
def DG {h:Type}(F:Fence)(n:Nat)(P:Program)(g:Nat)(p:Array ZC)(m:h->Array ZC)(r:h->Prop)(j:Nat)(S q:List h->Prop)(ZO:Nat)(w:M):Prop :=
 ∀(l:Nat) (ZN i:List h->M->Prop) (W:M),Below (I (J w)) w W->(∀s A B,ZN s A->Below (I (J W)) A B->ZN s B)->(∀s A B,i s A->Below (I (J W)) A B->i s B) ->
  (∀b x f,r x->ZN b f->b.length<ZO->I (J W)<=I (J f)->YieldAt F (n - 1) P l (m x) f λe c =>
   (e=ZF (ZD ZG)/\ZN (b++[x]) c/\Upd (λk=>j<=k/\k<I (J W)) f c)∨(e=ZF (ZD ZA)/\i (b++[x]) c)) ->
  ZN [] W ->
  CallsIn F n P g (#[.func (.yield l) #[] #[]]++p) W λe c=>(∃v,e=ZF v)/\((∃o,S o/\ZN o c)∨(∃b,q b/\i b c))
def JS {h:Type}(b c:Nat)(ZP:List h->M->Prop)(g:Code->List h->M->Prop)(f:List h)(W:M):Exit->Act->M->Prop
 |.normal,_,W'=>Upd (λk=>b<=k/\k<c) W W'/\ZP f W'
 |.ret,_,W'=>Upd (λk=>b<=k/\k<c) W W'/\g .ret f W'
 |.exit id,_,W'=>Upd (λk=>b<=k/\k<c) W W'/\g (.exit id) f W'
 |.goto t,_,W'=>Upd (λk=>b<=k/\k<c) W W'/\g (.goto t) f W'
 |.panic _,_,_=>False
 |.outgrown,_,_=>False
theorem jK{P:Program}{z:Type}{a:Act}
  (th:F.round=U) (h1:1<=n)   (hg:a.eval g=.func (.func gf) #[] lb) (Fm:F.fn gf) (eg:∀args w,(callFunc gf args).run P w=.ok (.enter gf args) w)
  {E:z->Array ZC} {Ox:z->Prop} {base:Nat} {S Sp:List z->Prop}  {V:M} (hbase:base<=I (J w)) (qr:DG F (n - 1) P gf lb E Ox base S Sp ZO V) (la:Below (I (J V)) V w) (Fk:∀x,(E x).size=ps.size)
  (ZP:List z->M->Prop) (X:Code->List z->M->Prop) (ZL:∀s A B,ZP s A->Below (I (J w)) A B->ZP s B) (ZN:∀c s A B,X c s A->Below (I (J w)) A B->X c s B) (h0:ZP [] w) (ZI:z->Act)
  (R:∀(l:Nat) (x:z) (W:M) (K:Act->M->Prop),K (ZI x) W ->
   assign.wpIn (F.inRound l) (n - 1 - 1) P (Exit.then K (λ_ _ _=>False)) { tmps:=(ps.zip (E x)).foldl (λt (p,v)=>t.setIfInBounds p v) a.tmps,defers:=[] } W)
  (dg:∀(l:Nat) (h:List z) (x:z) (W:M),Ox x->ZP h W->h.length<ZO->I (J w)<=I (J W)->body.wpIn (F.inRound l) (n - 1 - 1) P (JS base (I (J w)) ZP X (h++[x]) W) (ZI x) W)
  (fd:∀(D:Nat) (xs:List z) (W:M),I (J w)<=D->S xs->ZP xs W->W.heap[D]?=T (.deferred (T []))->ZM .normal { a with defers:={ target:=.collected D,args:=#[] } :: a.defers } W)
  (bt:∀(D:Nat) (c:Code) (h:List z) (W:M),I (J w)<=D->Sp h->X c h W->W.heap[D]?=T (.deferred (T []))->c.wpIn F n P ZM { a with defers:={ target:=.collected D,args:=#[] } :: a.defers } W) :
  (Code.rangeFunc g ps assign body).wpIn F n P ZM a w:=by
 refine wpIn_rangeFunc ?_;intro fn ro;rw[th];obtain⟨f,i⟩:∃f:LoopState->Option Code->Loop,f=λst pe=>{ state:=st,pending:=pe,fn,tmps:=a.tmps,params:=ps,assign,body,defers:=I (J w) }:=⟨_,rfl⟩
 obtain⟨o,H⟩:∃o,(w.alloc (.deferred (T []))).alloc (.loop (f .ready U))=o:=⟨_,rfl⟩
 have hs1:I (J o)=I (J w)+2:=by rw[<-H];simp
 have Bk:o.heap[I (J w)+1]?=T (.loop (f .ready U)):=by rw[<-H];have:=World.alloc_heap_new (w.alloc (.deferred (T []))) (.loop (f .ready U));rwa[World.size_alloc] at this
 have DQ:o.heap[I (J w)]?=T (.deferred (T [])):=by rw[<-H];exact(Below.heap_alloc _ _ _ (by simp)).trans (World.alloc_heap_new w _)
 have n9:Below (I (J w)) w o:=by rw[<-H];exact((Below.refl _ w).alloc (Nat.le_refl _) _).alloc (by simp) _
 have At:ZP [] o:=ZL _ _ _ h0 n9;have Fd:Below (I (J V)) V o:=la.trans (n9.mono la.size)
 refine⟨I (J w)+1,[{ target:=.collected (I (J w)),args:=#[] }],o,{ target:=.fn (.func gf) lb,args:=#[.func (.yield (I (J w)+1)) #[] #[]] },o,gf,
  #[.func (.yield (I (J w)+1)) #[] #[]]++lb,o,?_,?_,?_,?_,λ_=>h1,?_⟩
 {rw[<-H,i];exact run_enterLoop_outer _ _ _ _ _};{simp only[resolve,hg];simp[go_sem]};{intro f' mv;simp[Target.leads] at mv;subst mv;exact Fm};{simp[invoke,go_sem,eg]}
 ·refine(qr (I (J w)+1)
   (λh W=>ZP h W/\W.heap[I (J w)+1]?=T (.loop (f .ready U))/\W.heap[I (J w)]?=T (.deferred (T [])))
   (λh W=>∃c,X c h W/\W.heap[I (J w)+1]?=T (.loop (f .done (T c)))/\W.heap[I (J w)]?=T (.deferred (T [])))
   o Fd
   (λs A B ZK ZQ=>⟨ZL s A B ZK.1 (ZQ.mono (by omega)),(ZQ.block _ (by omega)).trans ZK.2.1,(ZQ.block _ (by omega)).trans ZK.2.2⟩)
   (λs A B ZK ZQ=>by
    obtain⟨c,hc,y,G⟩:=ZK
    exact⟨c,ZN c s A B hc (ZQ.mono (by omega)),(ZQ.block _ (by omega)).trans y,(ZQ.block _ (by omega)).trans G⟩)
   ?_ ⟨At,Bk,DQ⟩).mono ?_
  ·-- one round
   rintro h x W ur ⟨hi,y,G⟩ ph _;have aq:I (J w)+1<I (J W):=(Array.getElem?_eq_some_iff.1 y).1;have hy:=run_yield (P:=P) (args:=E x) y (by rw[i];exact Fk x);rw[i] at hy;refine⟨fn,_,assign,body,hy,roundIn_of_wpIn ro (R _ x W _ ⟨_,run_beginRound y (by rw[i]),?_⟩)⟩;have sm:(W.putObj (I (J w)+1) (.loop { f .ready U with state:=.busy })).heap[I (J w)+1]?=T (.loop { f .ready U with state:=.busy }):=World.putObj_heap_same aq;have DE:(W.putObj (I (J w)+1) (.loop { f .ready U with state:=.busy })).heap[I (J w)]?=T (.deferred (T [])):=(World.putObj_heap_other (by omega)).trans G;have DS:Upd (λk=>base<=k/\k<I (J o)) W (W.putObj (I (J w)+1) (.loop { f .ready U with state:=.busy })):=Upd.putObj _ ⟨by omega,by omega⟩ _;refine wpIn_mono (dg _ h x _ ur (ZL _ _ _ hi (da _ (by omega) aq _)) ph (by simp;omega)) ?_;have fin:∀(b:Option Code) (q:M),Upd (λk=>base<=k/\k<I (J w)) (W.putObj (I (J w)+1) (.loop { f .ready U with state:=.busy })) q ->
     (Instr.endRound (I (J w)+1) b).run P q=.ok (ZD b.isNone) (q.putObj (I (J w)+1) (.loop (f (if b.isNone then .ready else .done) b))) /\
     Below (I (J w)) q (q.putObj (I (J w)+1) (.loop (f (if b.isNone then .ready else .done) b))) /\
     (q.putObj (I (J w)+1) (.loop (f (if b.isNone then .ready else .done) b))).heap[I (J w)+1]?=T (.loop (f (if b.isNone then .ready else .done) b)) /\
     (q.putObj (I (J w)+1) (.loop (f (if b.isNone then .ready else .done) b))).heap[I (J w)]?=T (.deferred (T [])):=λb q j=>by
    have ld:=(j.block _ (by simpa using aq) (by omega)).trans sm;have m:=(j.block _ (by simp;omega) (by omega)).trans DE;have ZJ:=(Array.getElem?_eq_some_iff.1 ld).1;have:=run_endRound (P:=P) b ld;rw[i] at this ⊢;exact⟨this,da _ (by omega) ZJ _,World.putObj_heap_same ZJ,(World.putObj_heap_other (by omega)).trans m⟩
   rintro e a3 q O;cases e with
   |normal =>obtain⟨j,r⟩:=O;obtain⟨L,C,u,m⟩:=fin U q j;exact⟨_,_,L,.inl ⟨rfl,⟨ZL _ _ _ r C,u,m⟩,(DS.trans (j.mono (λk G=>⟨G.1,by omega⟩))).trans (Upd.putObj _ ⟨by omega,by omega⟩ _)⟩⟩
   |ret =>obtain⟨j,r⟩:=O;obtain⟨L,C,u,m⟩:=fin (T .ret) q j;exact⟨_,_,L,.inr ⟨rfl,.ret,ZN _ _ _ _ r C,u,m⟩⟩
   |exit id =>obtain⟨j,r⟩:=O;obtain⟨L,C,u,m⟩:=fin (T (.exit id)) q j;exact⟨_,_,L,.inr ⟨rfl,.exit id,ZN _ _ _ _ r C,u,m⟩⟩
   |goto t =>obtain⟨j,r⟩:=O;obtain⟨L,C,u,m⟩:=fin (T (.goto t)) q j;exact⟨_,_,L,.inr ⟨rfl,.goto t,ZN _ _ _ _ r C,u,m⟩⟩
   |panic ch=>exact O.elim
   |outgrown=>exact O.elim
  {rintro e W2 ⟨⟨v,rfl⟩,(⟨xs,hS,hi,y,G⟩|⟨h,DH,c,hi,y,G⟩)⟩;{exact⟨U,_,by have:=run_endLoop (P:=P) y (by rw[i];simp);rw[i] at this;exact this,fd _ xs _ (Nat.le_refl _) hS (ZL _ _ _ hi (da _ (by omega) (Array.getElem?_eq_some_iff.1 y).1 _)) ((World.putObj_heap_other (by omega)).trans G)⟩};{exact⟨T c,_,by have:=run_endLoop (P:=P) y (by rw[i];simp);rw[i] at this;exact this,bt _ c h _ (Nat.le_refl _) DH (ZN _ _ _ _ hi (da _ (by omega) (Array.getElem?_eq_some_iff.1 y).1 _)) ((World.putObj_heap_other (by omega)).trans G)⟩}}
def OfTy (w:M)(k:Nat)(e:ZH):Prop:=∃c z,w.heap[k]?=T (.cells c e z)
theorem OfTy.eq{k:Nat}(h:OfTy w k e)(hb:b.heap[k]?=w.heap[k]?):OfTy b k e:=by obtain⟨c,z,h⟩:=h;exact⟨c,z,hb.trans h⟩
theorem OfTy.ne{k:Nat}{f:ZH}(h:OfTy w k e)(hn:f≠e):¬ OfTy w k f:=by
 obtain⟨c,z,h⟩:=h;rintro⟨c',z',b⟩;rw[h] at b;cases b
 exact hn rfl
theorem OfTy.set{k:Nat}(h:OfTy w k e)(p:Addr)(v:ZC):OfTy (w.setCell p v) k e:=by
 obtain⟨c,z,h⟩:=h;by_cases b:p.block=k;{subst b;have hlt:=(Array.getElem?_eq_some_iff.1 h).1;have he:=(Array.getElem?_eq_some_iff.1 h).2;exact⟨if p.spot.isSome=ZG then c else c.setIfInBounds p.off v,z,by simp[World.setCell,Array.getElem?_modify,h]⟩};{exact⟨c,z,(Below.heap_setCell _ _ _ _ (λe=>b e.symm)).trans h⟩}
theorem OfTy.new (w:M)(c:Array ZC)(e:ZH):OfTy (w.alloc (.cells c e)) (I (J w)) e:=⟨c,_,World.alloc_heap_new w _⟩
structure Upd2 (ZL:ZH)(base n₀:Nat)(w w':M):Prop where
 os:w'.os=w.os
 tape:w'.tape=w.tape
 output:w'.output=w.output
 size:I (J w)<=I (J w')
 block:∀k,k<I (J w)->(k<base∨(n₀<=k/\¬ OfTy w k ZL))->w'.heap[k]?=w.heap[k]?
theorem Upd.two{b:Nat}{f:M}(h:Upd (λk=>b<=k/\k<c) w f)(ZL:ZH):Upd2 ZL b c w f:=⟨h.os,h.tape,h.output,h.size,λk g hp=>h.block k g (by omega)⟩
theorem OfTy.of_eq{k:Nat}(h:OfTy b k e)(hb:b.heap[k]?=w.heap[k]?):OfTy w k e:=by obtain⟨c,z,h⟩:=h;exact⟨c,z,hb.symm.trans h⟩
theorem Upd2.aa{f:Nat}(h:Upd2 ZL c f a b)(hb:c<=I (J a)):Below c a b:=⟨h.os,h.tape,h.output,h.size,λk g=>h.block k (by omega) (.inl g)⟩
structure Itr (B:ZH)(n:Nat)(w w':M):Prop where
 low:Below n w w'
 keep:∀(k:Nat) (c:Array ZC) (e:ZH) (z:Nat × Nat),w.heap[k]?=T (Obj.cells c e z)->e≠B->w'.heap[k]?=w.heap[k]?
theorem Itr.u (h:Below m w b)(f:I (J w)<=m)(hn:n<=m):Itr B n w b :=
 ⟨h.mono hn,λk _ _ _ c _=>h.block k (Nat.lt_of_lt_of_le (Array.getElem?_eq_some_iff.1 c).1 f)⟩
theorem Itr.setCell (w:M)(hn:n<=p.block)(i:OfTy w p.block B)(v:ZC):Itr B n w (w.setCell p v) :=
 ⟨(Below.refl n w).setCell hn v,λk c e z g f=>Below.heap_setCell _ _ _ _ (λh=>by
  obtain⟨c',z',b⟩:=i;rw[<-h,g] at b;cases b
  exact f rfl)⟩
def SeqT2 {f:Type}(ZL B:ZH)(F:Fence)(n:Nat)(P:Program)(g:Nat)(p:Array ZC)(m:f->Array ZC)(r:List f->f->Prop)(j:Nat)(S q:List f->Prop)(w:M):Prop :=
 ∀(l:Nat) (ZN i:List f->M->Prop) (W:M),Below (I (J w)) w W->(∀s A C,ZN s A->Itr B (I (J W)) A C->ZN s C)->(∀s A C,i s A->Itr B (I (J W)) A C->i s C) ->
  (∀b x h,r b x->ZN b h->I (J W)<=I (J h)->YieldAt F (n - 1) P l (m x) h λe c =>
   (e=ZF (ZD ZG)/\ZN (b++[x]) c/\Upd2 ZL j (I (J W)) h c)∨(e=ZF (ZD ZA)/\i (b++[x]) c)) ->
  ZN [] W ->
  CallsIn F n P g (#[.func (.yield l) #[] #[]]++p) W λe c=>(∃v,e=ZF v)/\((∃o,S o/\ZN o c)∨(∃b,q b/\i b c))
theorem YieldAt.mono2{P:Program}{args:Array ZC}{W:M}{R c:Ending->M->Prop}(h:YieldAt F m P l args W R)(hR:∀e b,R e b->c e b):YieldAt F m P l args W c:=by obtain⟨fn,tmps,assign,body,f,g⟩:=h;exact⟨fn,tmps,assign,body,f,g.mono hR⟩
theorem SeqT2.plain{m:Type}{P:Program}{g:Nat}{y:Array ZC}{j:m->Array ZC}{t:List m->m->Prop}{o:m->Prop}{i:Nat}{S r:List m->Prop}(h:SeqT2 ZL B F n P g y j t i S r w)(q:∀f x,t f x->o x/\f.length<ZO):DG F n P g y j o i S r ZO w :=
 λl ZN G W K ZP u z D=>h l ZN G W K (λs A C p hi=>ZP s A C p hi.low) (λs A C p hi=>u s A C p hi.low) (λf x E h1 h2 h4=>YieldAt.mono2 (z f x E (q f x h1).1 h2 (q f x h1).2 h4) λ_ _ H=>H.imp (λ⟨a,b,c⟩=>⟨a,b,c.two ZL⟩) id) D
def iw (w:M)(k:Nat):Prop:=∃(c:Array ZC) (e:ZH) (z:Nat × Nat),w.heap[k]?=T (Obj.cells c e z)
structure Itx (bx n:Nat)(w w':M):Prop where
 os:w'.os=w.os
 tape:w'.tape=w.tape
 output:w'.output=w.output
 size:I (J w)<=I (J w')
 keep:∀k,k<I (J w)->k≠bx->(k<n∨iw w k)->w'.heap[k]?=w.heap[k]?
theorem Itx.mono (h:Itx bx n w b)(hm:m<=n):Itx bx m w b:=⟨h.os,h.tape,h.output,h.size,λk c hb f=>h.keep k c hb (f.imp (λh=>by omega) id)⟩
theorem Itx.u{B:Nat}(h:Below B w b)(hB:I (J w)<=B):Itx bx n w b:=⟨h.os,h.tape,h.output,h.size,λk hk _ _=>h.block k (by omega)⟩
theorem Itx.putObj (w:M)(hn:n<=l)(b:¬ iw w l)(o:Obj):Itx bx n w (w.putObj l o) :=
 ⟨rfl,rfl,rfl,by simp,λk _ _ c=>World.putObj_heap_other (λe=>by
  subst e;rcases c with h|h
  ·omega
  ·exact b h)⟩
theorem Itx.setCell (w:M)(j:Nat)(v:ZC):Itx bx n w (w.setCell ⟨bx,j,U⟩ v) :=
 ⟨rfl,rfl,rfl,by simp[World.setCell],λk _ hb _=>Below.heap_setCell _ _ _ _ hb⟩
structure Bdx (bx:Nat)(w w':M):Prop where
 size:I (J w)<=I (J w')
 G:w'.heap[bx]?=w.heap[bx]?
 keep:∀k,k<I (J w)->¬ iw w k->w'.heap[k]?=w.heap[k]?
def IM {h:Type}(bx:Nat)(F:Fence)(n:Nat)(P:Program)(g:Nat)(o:Array ZC)(j:h->Array ZC)(q:List h->h->Prop)(S p:List h->Prop)(w:M):Prop :=
 ∀(l:Nat) (ZN i:List h->M->Prop) (W:M),Below (I (J w)) w W->(∀s A C,ZN s A->Itx bx (I (J W)) A C->ZN s C)->(∀s A C,i s A->Itx bx (I (J W)) A C->i s C) ->
  (∀b x f,q b x->ZN b f->I (J W)<=I (J f)->YieldAt F (n - 1) P l (j x) f λe c =>
   (e=ZF (ZD ZG)/\ZN (b++[x]) c/\c.heap[bx]?=f.heap[bx]?/\(I (J f))<=I (J c))∨(e=ZF (ZD ZA)/\i (b++[x]) c)) ->
  ZN [] W ->
  CallsIn F n P g (#[.func (.yield l) #[] #[]]++o) W λe c=>(∃v,e=ZF v)/\((∃m,S m/\ZN m c)∨(∃b,p b/\i b c))
def JU {f:Type}(bx:Nat)(ZP:List f->M->Prop)(c:Code->List f->M->Prop)(b:List f)(W:M):Exit->Act->M->Prop
 |.normal,_,W'=>Bdx bx W W'/\ZP b W'
 |.ret,_,W'=>Bdx bx W W'/\c .ret b W'
 |.exit id,_,W'=>Bdx bx W W'/\c (.exit id) b W'
 |.goto t,_,W'=>Bdx bx W W'/\c (.goto t) b W'
 |.panic _,_,_=>False
 |.outgrown,_,_=>False
theorem oM{P:Program}{y:Type}{a:Act}
  (DE:F.round=U) (h1:1<=n)   (hg:a.eval g=.func (.func gf) #[] lb) (Id:F.fn gf) (eg:∀args w,(callFunc gf args).run P w=.ok (.enter gf args) w)
  {H:y->Array ZC} {Ox:List y->y->Prop} {S Sp:List y->Prop} {ZI:M} (hbx:bx<I (J w)) (ur:IM bx F (n - 1) P gf lb H Ox S Sp ZI) (la:Below (I (J ZI)) ZI w) (Hx:∀x,(H x).size=ps.size)
  (ZP:List y->M->Prop) (Ix:Code->List y->M->Prop) (X:∀s A C,ZP s A->Itx bx (I (J w)) A C->ZP s C) (L:∀c s A C,Ix c s A->Itx bx (I (J w)) A C->Ix c s C) (h0:ZP [] w) (aq:y->Act)
  (ZJ:∀(l:Nat) (x:y) (W:M) (K:Act->M->Prop),K (aq x) W ->
   assign.wpIn (F.inRound l) (n - 1 - 1) P (Exit.then K (λ_ _ _=>False)) { tmps:=(ps.zip (H x)).foldl (λt (p,v)=>t.setIfInBounds p v) a.tmps,defers:=[] } W)
  (dg:∀(l:Nat) (i:List y) (x:y) (W:M),Ox i x->ZP i W->I (J w)<=I (J W)->body.wpIn (F.inRound l) (n - 1 - 1) P (JU bx ZP Ix (i++[x]) W) (aq x) W)
  (fd:∀(D:Nat) (xs:List y) (W:M),I (J w)<=D->S xs->ZP xs W->W.heap[D]?=T (.deferred (T []))->ZM .normal { a with defers:={ target:=.collected D,args:=#[] } :: a.defers } W)
  (bt:∀(D:Nat) (c:Code) (i:List y) (W:M),I (J w)<=D->Sp i->Ix c i W->W.heap[D]?=T (.deferred (T []))->c.wpIn F n P ZM { a with defers:={ target:=.collected D,args:=#[] } :: a.defers } W) :
  (Code.rangeFunc g ps assign body).wpIn F n P ZM a w:=by
 refine wpIn_rangeFunc ?_;intro fn At;rw[DE];obtain⟨f,m⟩:∃f:LoopState->Option Code->Loop,f=λst pe=>{ state:=st,pending:=pe,fn,tmps:=a.tmps,params:=ps,assign,body,defers:=I (J w) }:=⟨_,rfl⟩
 obtain⟨u,ZN⟩:∃u,(w.alloc (.deferred (T []))).alloc (.loop (f .ready U))=u:=⟨_,rfl⟩
 have hs1:I (J u)=I (J w)+2:=by rw[<-ZN];simp
 have DS:u.heap[I (J w)+1]?=T (.loop (f .ready U)):=by rw[<-ZN];have:=World.alloc_heap_new (w.alloc (.deferred (T []))) (.loop (f .ready U));rwa[World.size_alloc] at this
 have Fk:u.heap[I (J w)]?=T (.deferred (T [])):=by rw[<-ZN];exact(Below.heap_alloc _ _ _ (by simp)).trans (World.alloc_heap_new w _)
 have ro:Below (I (J w)) w u:=by rw[<-ZN];exact((Below.refl _ w).alloc (Nat.le_refl _) _).alloc (by simp) _
 have DQ:ZP [] u:=X _ _ _ h0 (Itx.u ro (Nat.le_refl _));have Fm:Below (I (J ZI)) ZI u:=la.trans (ro.mono la.size);have V:∀(W:M) (st:LoopState) (pe:Option Code),W.heap[I (J w)+1]?=T (.loop (f st pe))->¬ iw W (I (J w)+1):=λW st pe h ⟨c,e,z,h2⟩=>by rw[h] at h2;cases h2
 refine⟨I (J w)+1,[{ target:=.collected (I (J w)),args:=#[] }],u,{ target:=.fn (.func gf) lb,args:=#[.func (.yield (I (J w)+1)) #[] #[]] },u,gf,
  #[.func (.yield (I (J w)+1)) #[] #[]]++lb,u,?_,?_,?_,?_,λ_=>h1,?_⟩
 {rw[<-ZN,m];exact run_enterLoop_outer _ _ _ _ _};{simp only[resolve,hg];simp[go_sem]};{intro f' n9;simp[Target.leads] at n9;subst n9;exact Id};{simp[invoke,go_sem,eg]}
 ·refine(ur (I (J w)+1)
   (λi W=>ZP i W/\W.heap[I (J w)+1]?=T (.loop (f .ready U))/\W.heap[I (J w)]?=T (.deferred (T [])))
   (λi W=>∃c,Ix c i W/\W.heap[I (J w)+1]?=T (.loop (f .done (T c)))/\W.heap[I (J w)]?=T (.deferred (T [])))
   u Fm
   (λs A C O R=>⟨X s A C O.1 (R.mono (by omega)),(R.keep _ (Array.getElem?_eq_some_iff.1 O.2.1).1 (by omega) (.inl (by omega))).trans O.2.1,(R.keep _ (Array.getElem?_eq_some_iff.1 O.2.2).1 (by omega) (.inl (by omega))).trans O.2.2⟩)
   (λs A C O R=>by
    obtain⟨c,hc,r,ZQ⟩:=O
    exact⟨c,L c s A C hc (R.mono (by omega)),(R.keep _ (Array.getElem?_eq_some_iff.1 r).1 (by omega) (.inl (by omega))).trans r,(R.keep _ (Array.getElem?_eq_some_iff.1 ZQ).1 (by omega) (.inl (by omega))).trans ZQ⟩)
   ?_ ⟨DQ,DS,Fk⟩).mono ?_
  ·-- one round
   rintro i x W DH ⟨hi,r,ZQ⟩ _;have qr:I (J w)+1<I (J W):=(Array.getElem?_eq_some_iff.1 r).1;have hy:=run_yield (P:=P) (args:=H x) r (by rw[m];exact Hx x);rw[m] at hy;refine⟨fn,_,assign,body,hy,roundIn_of_wpIn At (ZJ _ x W _ ⟨_,run_beginRound r (by rw[m]),?_⟩)⟩;have ld:(W.putObj (I (J w)+1) (.loop { f .ready U with state:=.busy })).heap[I (J w)+1]?=T (.loop { f .ready U with state:=.busy }):=World.putObj_heap_same qr;have mv:(W.putObj (I (J w)+1) (.loop { f .ready U with state:=.busy })).heap[I (J w)]?=T (.deferred (T [])):=(World.putObj_heap_other (by omega)).trans ZQ;have sm:(W.putObj (I (J w)+1) (.loop { f .ready U with state:=.busy })).heap[bx]?=W.heap[bx]?:=World.putObj_heap_other (by omega);refine wpIn_mono (dg _ i x _ DH (X _ _ _ hi (Itx.putObj _ (by omega) (V W _ _ r) _)) (by simp;omega)) ?_;have fin:∀(b:Option Code) (j:M),Bdx bx (W.putObj (I (J w)+1) (.loop { f .ready U with state:=.busy })) j ->
     (Instr.endRound (I (J w)+1) b).run P j=.ok (ZD b.isNone) (j.putObj (I (J w)+1) (.loop (f (if b.isNone then .ready else .done) b))) /\
     Itx bx (I (J w)) j (j.putObj (I (J w)+1) (.loop (f (if b.isNone then .ready else .done) b))) /\
     (j.putObj (I (J w)+1) (.loop (f (if b.isNone then .ready else .done) b))).heap[I (J w)+1]?=T (.loop (f (if b.isNone then .ready else .done) b)) /\
     (j.putObj (I (J w)+1) (.loop (f (if b.isNone then .ready else .done) b))).heap[I (J w)]?=T (.deferred (T [])) /\
     (j.putObj (I (J w)+1) (.loop (f (if b.isNone then .ready else .done) b))).heap[bx]?=W.heap[bx]?/\(I (J W))<=(j.putObj (I (J w)+1) (.loop (f (if b.isNone then .ready else .done) b))).heap.size:=λb j o=>by
    have GS:I (J W)<=I (J j):=by have:=o.size;simpa using this
    have ZK:=(o.keep (I (J w)+1) (by simpa using qr) (λ⟨c,e,z,h⟩=>by rw[ld] at h;cases h)).trans ld;have q:=(o.keep (I (J w)) (by simp;omega) (λ⟨c,e,z,h⟩=>by rw[mv] at h;cases h)).trans mv;have th:=(Array.getElem?_eq_some_iff.1 ZK).1;have:=run_endRound (P:=P) b ZK;have ph:Itx bx (I (J w)) j (j.putObj (I (J w)+1) (.loop (f (if b.isNone then .ready else .done) b))):=Itx.putObj _ (by omega) (λ⟨c,e,z,h⟩=>by rw[ZK] at h;cases h) _;have e4:(j.putObj (I (J w)+1) (.loop (f (if b.isNone then .ready else .done) b))).heap[bx]?=W.heap[bx]?:=(World.putObj_heap_other (by omega)).trans (o.G.trans sm);have e5:I (J W)<=(j.putObj (I (J w)+1) (.loop (f (if b.isNone then .ready else .done) b))).heap.size:=by simpa using GS
    rw[m] at this ph e4 e5 ⊢;exact⟨this,ph,World.putObj_heap_same th,(World.putObj_heap_other (by omega)).trans q,e4,e5⟩
   rintro e a3 j ZL;cases e with
   |normal =>obtain⟨o,B⟩:=ZL;obtain⟨ZO,G,E,q,Fn,Bk⟩:=fin U j o;exact⟨_,_,ZO,.inl ⟨rfl,⟨X _ _ _ B G,E,q⟩,Fn,Bk⟩⟩
   |ret =>obtain⟨o,B⟩:=ZL;obtain⟨ZO,G,E,q,_⟩:=fin (T .ret) j o;exact⟨_,_,ZO,.inr ⟨rfl,.ret,L _ _ _ _ B G,E,q⟩⟩
   |exit id =>obtain⟨o,B⟩:=ZL;obtain⟨ZO,G,E,q,_⟩:=fin (T (.exit id)) j o;exact⟨_,_,ZO,.inr ⟨rfl,.exit id,L _ _ _ _ B G,E,q⟩⟩
   |goto t =>obtain⟨o,B⟩:=ZL;obtain⟨ZO,G,E,q,_⟩:=fin (T (.goto t)) j o;exact⟨_,_,ZO,.inr ⟨rfl,.goto t,L _ _ _ _ B G,E,q⟩⟩
   |panic ch=>exact ZL.elim
   |outgrown=>exact ZL.elim
  {rintro e W2 ⟨⟨v,rfl⟩,(⟨xs,hS,hi,r,ZQ⟩|⟨i,Fd,c,hi,r,ZQ⟩)⟩;{exact⟨U,_,by have:=run_endLoop (P:=P) r (by rw[m];simp);rw[m] at this;exact this,fd _ xs _ (Nat.le_refl _) hS (X _ _ _ hi (Itx.putObj _ (by omega) (V _ _ _ r) _)) ((World.putObj_heap_other (by omega)).trans ZQ)⟩};{exact⟨T c,_,by have:=run_endLoop (P:=P) r (by rw[m];simp);rw[m] at this;exact this,bt _ c i _ (Nat.le_refl _) Fd (L _ _ _ _ hi (Itx.putObj _ (by omega) (V _ _ _ r) _)) ((World.putObj_heap_other (by omega)).trans ZQ)⟩}}
