import Derived.RangeFuncKeeps
import Derived.RangeFuncFrom
open Option renaming none->Y,some->T
open Go renaming World->G,Value->ZD,TypeId->ZI,Value.bool->ZC,Ending.returned->ZG,World.heap->J
open Array renaming size->I
namespace Go.Proofs.YthkpcehepgmdgaaGreatDoor.Ca
open RowKit
variable {w b a:G}{n base n₀ l m gf ZO:Nat}{ZM B e:ZI}{P:Nat->Prop}{p:Addr}{g:Operand}{ps:Array Tmp}{assign body:Code}{ZN:Exit->Act->G->Prop}{lb:Array ZD}
structure Upd (P:Nat->Prop)(w w':G):Prop where
 os:w'.os=w.os
 tape:w'.tape=w.tape
 output:w'.output=w.output
 size:I (J w)<=I (J w')
 block:∀k,k<I (J w)->¬ P k->w'.heap[k]?=w.heap[k]?
theorem Upd.refl (P:Nat->Prop)(w:G):Upd P w w:=⟨rfl,rfl,rfl,Nat.le_refl _,λ_ _ _=>rfl⟩
theorem Upd.trans{c:G}(h:Upd P a b)(k:Upd P b c):Upd P a c :=
 ⟨k.os.trans h.os,k.tape.trans h.tape,k.output.trans h.output,Nat.le_trans h.size k.size,λi hi f=>(k.block i (Nat.lt_of_lt_of_le hi h.size) f).trans (h.block i hi f)⟩
theorem Upd.mono{ZN:Nat->Prop}(h:Upd P a b)(f:∀k,P k->ZN k):Upd ZN a b :=
 ⟨h.os,h.tape,h.output,h.size,λi hi g=>h.block i hi (λj=>g (f i j))⟩
theorem Upd.setCell (w:G)(f:P p.block)(v:ZD):Upd P w (w.setCell p v) :=
 ⟨rfl,rfl,rfl,by simp[World.setCell],λk _ b=>Below.heap_setCell _ _ _ _ (λe=>b (e ▸ f))⟩
theorem Upd.putObj (w:G)(f:P l)(o:Obj):Upd P w (w.putObj l o) :=
 ⟨rfl,rfl,rfl,by simp,λk _ b=>World.putObj_heap_other (λe=>b (e ▸ f))⟩
theorem dq (w:G)(hn:n<=l)(hl:l<I (J w))(o:Obj):Below n w (w.putObj l o) :=
 (Below.refl n w).grown (grownBy_putObj' w l o) (by omega) (λk e=>by cases e;exact hn)
def AX {j:Type}(F:Fence)(n:Nat)(P:Program)(g:Nat)(q:Array ZD)(m:j->Array ZD)(r:j->Prop)(o:Nat)(S t:List j->Prop)(ZO:Nat)(w:G):Prop :=
 ∀(l:Nat) (ZP i:List j->G->Prop) (W:G),Below (I (J w)) w W->(∀s A B,ZP s A->Below (I (J W)) A B->ZP s B)->(∀s A B,i s A->Below (I (J W)) A B->i s B) ->
  (∀b x h,r x->ZP b h->b.length<ZO->I (J W)<=I (J h)->YieldAt F (n - 1) P l (m x) h λe f =>
   (e=ZG (ZC true)/\ZP (b++[x]) f/\Upd (λk=>o<=k/\k<I (J W)) h f)∨(e=ZG (ZC false)/\i (b++[x]) f)) ->
  ZP [] W ->
  CallsIn F n P g (#[.func (.yield l) #[] #[]]++q) W λe f=>(∃v,e=ZG v)/\((∃p,S p/\ZP p f)∨(∃b,t b/\i b f))
def GI {h:Type}(f b:Nat)(ZQ:List h->G->Prop)(i:Code->List h->G->Prop)(g:List h)(W:G):Exit->Act->G->Prop
 |.normal,_,W'=>Upd (λk=>f<=k/\k<b) W W'/\ZQ g W'
 |.ret,_,W'=>Upd (λk=>f<=k/\k<b) W W'/\i .ret g W'
 |.exit id,_,W'=>Upd (λk=>f<=k/\k<b) W W'/\i (.exit id) g W'
 |.goto t,_,W'=>Upd (λk=>f<=k/\k<b) W W'/\i (.goto t) g W'
 |.panic _,_,_=>False
 |.outgrown,_,_=>False
theorem ji{F:Fence}{P:Program}{z:Type}{a:Act}
  (qr:F.round=Y) (h1:1<=n)   (hg:a.eval g=.func (.func gf) #[] lb) (Fd:F.fn gf) (eg:∀args w,(callFunc gf args).run P w=.ok (.enter gf args) w)
  {E:z->Array ZD} {Ox:z->Prop}  {S Sp:List z->Prop}  {X:G} (hbase:base<=I (J w)) (n8:AX F (n - 1) P gf lb E Ox base S Sp ZO X) (fd:Below (I (J X)) X w) (Bk:∀x,(E x).size=ps.size)
  (ZQ:List z->G->Prop) (ZJ:Code->List z->G->Prop) (ZM:∀s A B,ZQ s A->Below (I (J w)) A B->ZQ s B) (ZS:∀c s A B,ZJ c s A->Below (I (J w)) A B->ZJ c s B) (h0:ZQ [] w) (R:z->Act)
  (M:∀(l:Nat) (x:z) (W:G) (K:Act->G->Prop),K (R x) W ->
   assign.wpIn (F.inRound l) (n - 1 - 1) P (Exit.then K (λ_ _ _=>False)) { tmps:=(ps.zip (E x)).foldl (λt (p,v)=>t.setIfInBounds p v) a.tmps,defers:=[] } W)
  (ex:∀(l:Nat) (f:List z) (x:z) (W:G),Ox x->ZQ f W->f.length<ZO->I (J w)<=I (J W)->body.wpIn (F.inRound l) (n - 1 - 1) P (GI base (I (J w)) ZQ ZJ (f++[x]) W) (R x) W)
  (bt:∀(D:Nat) (xs:List z) (W:G),I (J w)<=D->S xs->ZQ xs W->W.heap[D]?=T (.deferred (T []))->ZN .normal { a with defers:={ target:=.collected D,args:=#[] } :: a.defers } W)
  (aq:∀(D:Nat) (c:Code) (f:List z) (W:G),I (J w)<=D->Sp f->ZJ c f W->W.heap[D]?=T (.deferred (T []))->c.wpIn F n P ZN { a with defers:={ target:=.collected D,args:=#[] } :: a.defers } W) :
  (Code.rangeFunc g ps assign body).wpIn F n P ZN a w:=by
 refine wpIn_rangeFunc ?_;intro fn ur;rw[qr];obtain⟨b,h⟩:∃b:LoopState->Option Code->Loop,b=λst pe=>{ state:=st,pending:=pe,fn,tmps:=a.tmps,params:=ps,assign,body,defers:=I (J w) }:=⟨_,rfl⟩
 obtain⟨m,H⟩:∃m,(w.alloc (.deferred (T []))).alloc (.loop (b .ready Y))=m:=⟨_,rfl⟩
 have hs1:I (J m)=I (J w)+2:=by rw[<-H];simp
 have DE:m.heap[I (J w)+1]?=T (.loop (b .ready Y)):=by rw[<-H];have:=World.alloc_heap_new (w.alloc (.deferred (T []))) (.loop (b .ready Y));rwa[World.size_alloc] at this
 have ph:m.heap[I (J w)]?=T (.deferred (T [])):=by rw[<-H];exact(Below.heap_alloc _ _ _ (by simp)).trans (World.alloc_heap_new w _)
 have la:Below (I (J w)) w m:=by rw[<-H];exact((Below.refl _ w).alloc (Nat.le_refl _) _).alloc (by simp) _
 have DQ:ZQ [] m:=ZM _ _ _ h0 la;have ro:Below (I (J X)) X m:=fd.trans (la.mono fd.size)
 refine⟨I (J w)+1,[{ target:=.collected (I (J w)),args:=#[] }],m,{ target:=.fn (.func gf) lb,args:=#[.func (.yield (I (J w)+1)) #[] #[]] },m,gf,
  #[.func (.yield (I (J w)+1)) #[] #[]]++lb,m,?_,?_,?_,?_,λ_=>h1,?_⟩
 {rw[<-H,h];exact run_enterLoop_outer _ _ _ _ _};{simp only[resolve,hg];simp[go_sem]};{intro f' n7;simp[Target.leads] at n7;subst n7;exact Fd};{simp[invoke,go_sem,eg]}
 ·refine(n8 (I (J w)+1)
   (λf W=>ZQ f W/\W.heap[I (J w)+1]?=T (.loop (b .ready Y))/\W.heap[I (J w)]?=T (.deferred (T [])))
   (λf W=>∃c,ZJ c f W/\W.heap[I (J w)+1]?=T (.loop (b .done (T c)))/\W.heap[I (J w)]?=T (.deferred (T [])))
   m ro
   (λs A B ZK ZP=>⟨ZM s A B ZK.1 (ZP.mono (by omega)),(ZP.block _ (by omega)).trans ZK.2.1,(ZP.block _ (by omega)).trans ZK.2.2⟩)
   (λs A B ZK ZP=>by
    obtain⟨c,hc,u,C⟩:=ZK
    exact⟨c,ZS c s A B hc (ZP.mono (by omega)),(ZP.block _ (by omega)).trans u,(ZP.block _ (by omega)).trans C⟩)
   ?_ ⟨DQ,DE,ph⟩).mono ?_
  ·-- one round
   rintro f x W DS ⟨hi,u,C⟩ n9 _;have V:I (J w)+1<I (J W):=(Array.getElem?_eq_some_iff.1 u).1;have hy:=run_yield (P:=P) (args:=E x) u (by rw[h];exact Bk x);rw[h] at hy;refine⟨fn,_,assign,body,hy,roundIn_of_wpIn ur (M _ x W _ ⟨_,run_beginRound u (by rw[h]),?_⟩)⟩;have th:(W.putObj (I (J w)+1) (.loop { b .ready Y with state:=.busy })).heap[I (J w)+1]?=T (.loop { b .ready Y with state:=.busy }):=World.putObj_heap_same V;have sm:(W.putObj (I (J w)+1) (.loop { b .ready Y with state:=.busy })).heap[I (J w)]?=T (.deferred (T [])):=(World.putObj_heap_other (by omega)).trans C;have At:Upd (λk=>base<=k/\k<I (J m)) W (W.putObj (I (J w)+1) (.loop { b .ready Y with state:=.busy })):=Upd.putObj _ ⟨by omega,by omega⟩ _;refine wpIn_mono (ex _ f x _ DS (ZM _ _ _ hi (dq _ (by omega) V _)) n9 (by simp;omega)) ?_;have fin:∀(jump:Option Code) (o:G),Upd (λk=>base<=k/\k<I (J w)) (W.putObj (I (J w)+1) (.loop { b .ready Y with state:=.busy })) o ->
     (Instr.endRound (I (J w)+1) jump).run P o=.ok (ZC jump.isNone) (o.putObj (I (J w)+1) (.loop (b (if jump.isNone then .ready else .done) jump))) /\
     Below (I (J w)) o (o.putObj (I (J w)+1) (.loop (b (if jump.isNone then .ready else .done) jump))) /\
     (o.putObj (I (J w)+1) (.loop (b (if jump.isNone then .ready else .done) jump))).heap[I (J w)+1]?=T (.loop (b (if jump.isNone then .ready else .done) jump)) /\
     (o.putObj (I (J w)+1) (.loop (b (if jump.isNone then .ready else .done) jump))).heap[I (J w)]?=T (.deferred (T [])):=λjump o i=>by
    have ld:=(i.block _ (by simpa using V) (by omega)).trans th;have j:=(i.block _ (by simp;omega) (by omega)).trans sm;have ZL:=(Array.getElem?_eq_some_iff.1 ld).1;have:=run_endRound (P:=P) jump ld;rw[h] at this ⊢;exact⟨this,dq _ (by omega) ZL _,World.putObj_heap_same ZL,(World.putObj_heap_other (by omega)).trans j⟩
   rintro e a3 o O;cases e with
   |normal =>obtain⟨i,y⟩:=O;obtain⟨L,q,r,j⟩:=fin Y o i;exact⟨_,_,L,.inl ⟨rfl,⟨ZM _ _ _ y q,r,j⟩,(At.trans (i.mono (λk C=>⟨C.1,by omega⟩))).trans (Upd.putObj _ ⟨by omega,by omega⟩ _)⟩⟩
   |ret =>obtain⟨i,y⟩:=O;obtain⟨L,q,r,j⟩:=fin (T .ret) o i;exact⟨_,_,L,.inr ⟨rfl,.ret,ZS _ _ _ _ y q,r,j⟩⟩
   |exit id =>obtain⟨i,y⟩:=O;obtain⟨L,q,r,j⟩:=fin (T (.exit id)) o i;exact⟨_,_,L,.inr ⟨rfl,.exit id,ZS _ _ _ _ y q,r,j⟩⟩
   |goto t =>obtain⟨i,y⟩:=O;obtain⟨L,q,r,j⟩:=fin (T (.goto t)) o i;exact⟨_,_,L,.inr ⟨rfl,.goto t,ZS _ _ _ _ y q,r,j⟩⟩
   |panic ch=>exact O.elim
   |outgrown=>exact O.elim
  {rintro e W2 ⟨⟨v,rfl⟩,(⟨xs,hS,hi,u,C⟩|⟨f,Fk,c,hi,u,C⟩)⟩;{exact⟨Y,_,by have:=run_endLoop (P:=P) u (by rw[h];simp);rw[h] at this;exact this,bt _ xs _ (Nat.le_refl _) hS (ZM _ _ _ hi (dq _ (by omega) (Array.getElem?_eq_some_iff.1 u).1 _)) ((World.putObj_heap_other (by omega)).trans C)⟩};{exact⟨T c,_,by have:=run_endLoop (P:=P) u (by rw[h];simp);rw[h] at this;exact this,aq _ c f _ (Nat.le_refl _) Fk (ZS _ _ _ _ hi (dq _ (by omega) (Array.getElem?_eq_some_iff.1 u).1 _)) ((World.putObj_heap_other (by omega)).trans C)⟩}}
def OfTy (w:G)(k:Nat)(e:ZI):Prop:=∃c z,w.heap[k]?=T (.cells c e z)
theorem OfTy.eq{k:Nat}(h:OfTy w k e)(hb:b.heap[k]?=w.heap[k]?):OfTy b k e:=by obtain⟨c,z,h⟩:=h;exact⟨c,z,hb.trans h⟩
theorem OfTy.ne{k:Nat}{f:ZI}(h:OfTy w k e)(hn:f≠e):¬ OfTy w k f:=by
 obtain⟨c,z,h⟩:=h;rintro⟨c',z',b⟩;rw[h] at b;cases b
 exact hn rfl
theorem OfTy.set{k:Nat}(h:OfTy w k e)(p:Addr)(v:ZD):OfTy (w.setCell p v) k e:=by
 obtain⟨c,z,h⟩:=h;by_cases b:p.block=k;{subst b;have hlt:=(Array.getElem?_eq_some_iff.1 h).1;have he:=(Array.getElem?_eq_some_iff.1 h).2;exact⟨if p.spot.isSome=true then c else c.setIfInBounds p.off v,z,by simp[World.setCell,Array.getElem?_modify,h]⟩};{exact⟨c,z,(Below.heap_setCell _ _ _ _ (λe=>b e.symm)).trans h⟩}
theorem OfTy.new (w:G)(c:Array ZD)(e:ZI):OfTy (w.alloc (.cells c e)) (I (J w)) e:=⟨c,_,World.alloc_heap_new w _⟩
structure Upd2 (ZM:ZI)(base n₀:Nat)(w w':G):Prop where
 os:w'.os=w.os
 tape:w'.tape=w.tape
 output:w'.output=w.output
 size:I (J w)<=I (J w')
 block:∀k,k<I (J w)->(k<base∨(n₀<=k/\¬ OfTy w k ZM))->w'.heap[k]?=w.heap[k]?
theorem Upd.two{f b:Nat}{g:G}(h:Upd (λk=>f<=k/\k<b) w g)(ZM:ZI):Upd2 ZM f b w g:=⟨h.os,h.tape,h.output,h.size,λk i hp=>h.block k i (by omega)⟩
theorem OfTy.of_eq{k:Nat}(h:OfTy b k e)(hb:b.heap[k]?=w.heap[k]?):OfTy w k e:=by obtain⟨c,z,h⟩:=h;exact⟨c,z,hb.symm.trans h⟩
theorem Upd2.trans{c:G}(h:Upd2 ZM base n₀ a b)(k:Upd2 ZM base n₀ b c):Upd2 ZM base n₀ a c :=
 ⟨k.os.trans h.os,k.tape.trans h.tape,k.output.trans h.output,Nat.le_trans h.size k.size,λi hi f =>
  have e:=h.block i hi f
  (k.block i (Nat.lt_of_lt_of_le hi h.size) (f.imp id λ⟨x,y⟩=>⟨x,λt=>y (t.of_eq e)⟩)).trans e⟩
theorem Upd2.mono (h:Upd2 ZM base n₀ a b)(hm:n₀<=m):Upd2 ZM base m a b :=
 ⟨h.os,h.tape,h.output,h.size,λi hi f=>h.block i hi (f.imp id λ⟨x,y⟩=>⟨by omega,y⟩)⟩
theorem Upd2.aa (h:Upd2 ZM base n₀ a b)(hb:base<=I (J a)):Below base a b:=⟨h.os,h.tape,h.output,h.size,λk f=>h.block k (by omega) (.inl f)⟩
theorem Upd2.q{B:Nat}(h:Below B w b)(f:I (J w)<=B):Upd2 ZM base n₀ w b :=
 ⟨h.os,h.tape,h.output,h.size,λi hi _=>h.block i (Nat.lt_of_lt_of_le hi f)⟩
theorem Upd2.setCell (w:G)(hp:base<=p.block)(f:p.block<n₀∨OfTy w p.block ZM)(v:ZD):Upd2 ZM base n₀ w (w.setCell p v) :=
 ⟨rfl,rfl,rfl,by simp[World.setCell],λk _ b=>Below.heap_setCell _ _ _ _ (λe=>by
  subst e;rcases b with h|⟨h,hn⟩
  ·omega
  ·exact hn (f.resolve_left (by omega)))⟩
structure Itr (B:ZI)(n:Nat)(w w':G):Prop where
 low:Below n w w'
 keep:∀(k:Nat) (c:Array ZD) (e:ZI) (z:Nat × Nat),w.heap[k]?=T (Obj.cells c e z)->e≠B->w'.heap[k]?=w.heap[k]?
theorem Itr.q (h:Below m w b)(g:I (J w)<=m)(hn:n<=m):Itr B n w b :=
 ⟨h.mono hn,λk _ _ _ f _=>h.block k (Nat.lt_of_lt_of_le (Array.getElem?_eq_some_iff.1 f).1 g)⟩
theorem Itr.mono (h:Itr B n w b)(f:m<=n):Itr B m w b:=⟨h.low.mono f,h.keep⟩
theorem Itr.setCell (w:G)(hn:n<=p.block)(i:OfTy w p.block B)(v:ZD):Itr B n w (w.setCell p v) :=
 ⟨(Below.refl n w).setCell hn v,λk c e z f g=>Below.heap_setCell _ _ _ _ (λh=>by
  obtain⟨c',z',b⟩:=i;rw[<-h,f] at b;cases b
  exact g rfl)⟩
theorem Itr.putObj (w:G)(hn:n<=l)(g:l<I (J w))(b:∀(c:Array ZD) (e:ZI) (z:Nat × Nat),w.heap[l]?≠T (Obj.cells c e z))(o:Obj):Itr B n w (w.putObj l o) :=
 ⟨dq w hn g o,λk c e z f _=>World.putObj_heap_other (λh=>by subst h;exact b _ _ _ f)⟩
def SeqT2 {h:Type}(ZM B:ZI)(F:Fence)(n:Nat)(P:Program)(g:Nat)(q:Array ZD)(m:h->Array ZD)(r:List h->h->Prop)(o:Nat)(S t:List h->Prop)(w:G):Prop :=
 ∀(l:Nat) (ZP j:List h->G->Prop) (W:G),Below (I (J w)) w W->(∀s A C,ZP s A->Itr B (I (J W)) A C->ZP s C)->(∀s A C,j s A->Itr B (I (J W)) A C->j s C) ->
  (∀b x i,r b x->ZP b i->I (J W)<=I (J i)->YieldAt F (n - 1) P l (m x) i λe f =>
   (e=ZG (ZC true)/\ZP (b++[x]) f/\Upd2 ZM o (I (J W)) i f)∨(e=ZG (ZC false)/\j (b++[x]) f)) ->
  ZP [] W ->
  CallsIn F n P g (#[.func (.yield l) #[] #[]]++q) W λe f=>(∃v,e=ZG v)/\((∃p,S p/\ZP p f)∨(∃b,t b/\j b f))
theorem YieldAt.mono2{F:Fence}{P:Program}{args:Array ZD}{W:G}{R f:Ending->G->Prop}(h:YieldAt F m P l args W R)(hR:∀e b,R e b->f e b):YieldAt F m P l args W f:=by obtain⟨fn,tmps,assign,body,i,g⟩:=h;exact⟨fn,tmps,assign,body,i,g.mono hR⟩
theorem SeqT2.plain{m:Type}{F:Fence}{P:Program}{g:Nat}{y:Array ZD}{i:m->Array ZD}{t:List m->m->Prop}{o:m->Prop}{j:Nat}{S q:List m->Prop}(h:SeqT2 ZM B F n P g y i t j S q w)(r:∀f x,t f x->o x/\f.length<ZO):AX F n P g y i o j S q ZO w :=
 λl ZP D W H ZQ u z L=>h l ZP D W H (λs A C p hi=>ZQ s A C p hi.low) (λs A C p hi=>u s A C p hi.low) (λf x K h1 h2 E=>YieldAt.mono2 (z f x K (r f x h1).1 h2 (r f x h1).2 E) λ_ _ ZS=>ZS.imp (λ⟨a,b,c⟩=>⟨a,b,c.two ZM⟩) id) L
def FO {h:Type}(ZM:ZI)(f b:Nat)(ZQ:List h->G->Prop)(i:Code->List h->G->Prop)(g:List h)(W:G):Exit->Act->G->Prop
 |.normal,_,W'=>Upd2 ZM f b W W'/\ZQ g W'
 |.ret,_,W'=>Upd2 ZM f b W W'/\i .ret g W'
 |.exit id,_,W'=>Upd2 ZM f b W W'/\i (.exit id) g W'
 |.goto t,_,W'=>Upd2 ZM f b W W'/\i (.goto t) g W'
 |.panic _,_,_=>False
 |.outgrown,_,_=>False
theorem nI{F:Fence}{P:Program}{u:Type}{a:Act}
  (sm:F.round=Y) (h1:1<=n)   (hg:a.eval g=.func (.func gf) #[] lb) (Fd:F.fn gf) (eg:∀args w,(callFunc gf args).run P w=.ok (.enter gf args) w)
  {H:u->Array ZD} {Ox:List u->u->Prop}  {S Sp:List u->Prop} {w0:G} (hbase:base<=I (J w)) (qr:SeqT2 ZM B F (n - 1) P gf lb H Ox base S Sp w0) (la:Below (I (J w0)) w0 w) (Bk:∀x,(H x).size=ps.size)
  (ZQ:List u->G->Prop) (Ix:Code->List u->G->Prop) (X:∀s A C,ZQ s A->Itr B (I (J w)) A C->ZQ s C) (ZP:∀c s A C,Ix c s A->Itr B (I (J w)) A C->Ix c s C) (h0:ZQ [] w) (V:u->Act)
  (R:∀(l:Nat) (x:u) (W:G) (K:Act->G->Prop),K (V x) W ->
   assign.wpIn (F.inRound l) (n - 1 - 1) P (Exit.then K (λ_ _ _=>False)) { tmps:=(ps.zip (H x)).foldl (λt (p,v)=>t.setIfInBounds p v) a.tmps,defers:=[] } W)
  (fd:∀(l:Nat) (f:List u) (x:u) (W:G),Ox f x->ZQ f W->I (J w)<=I (J W)->body.wpIn (F.inRound l) (n - 1 - 1) P (FO ZM base (I (J w)) ZQ Ix (f++[x]) W) (V x) W)
  (ex:∀(D:Nat) (xs:List u) (W:G),I (J w)<=D->S xs->ZQ xs W->W.heap[D]?=T (.deferred (T []))->ZN .normal { a with defers:={ target:=.collected D,args:=#[] } :: a.defers } W)
  (bt:∀(D:Nat) (c:Code) (f:List u) (W:G),I (J w)<=D->Sp f->Ix c f W->W.heap[D]?=T (.deferred (T []))->c.wpIn F n P ZN { a with defers:={ target:=.collected D,args:=#[] } :: a.defers } W) :
  (Code.rangeFunc g ps assign body).wpIn F n P ZN a w:=by
 refine wpIn_rangeFunc ?_;intro fn ur;rw[sm];obtain⟨b,i⟩:∃b:LoopState->Option Code->Loop,b=λst pe=>{ state:=st,pending:=pe,fn,tmps:=a.tmps,params:=ps,assign,body,defers:=I (J w) }:=⟨_,rfl⟩
 obtain⟨r,L⟩:∃r,(w.alloc (.deferred (T []))).alloc (.loop (b .ready Y))=r:=⟨_,rfl⟩
 have hs1:I (J r)=I (J w)+2:=by rw[<-L];simp
 have DE:r.heap[I (J w)+1]?=T (.loop (b .ready Y)):=by rw[<-L];have:=World.alloc_heap_new (w.alloc (.deferred (T []))) (.loop (b .ready Y));rwa[World.size_alloc] at this
 have ro:r.heap[I (J w)]?=T (.deferred (T [])):=by rw[<-L];exact(Below.heap_alloc _ _ _ (by simp)).trans (World.alloc_heap_new w _)
 have ld:Below (I (J w)) w r:=by rw[<-L];exact((Below.refl _ w).alloc (Nat.le_refl _) _).alloc (by simp) _
 have DQ:ZQ [] r:=X _ _ _ h0 (Itr.q ld (Nat.le_refl _) (Nat.le_refl _));have th:Below (I (J w0)) w0 r:=la.trans (ld.mono la.size)
 refine⟨I (J w)+1,[{ target:=.collected (I (J w)),args:=#[] }],r,{ target:=.fn (.func gf) lb,args:=#[.func (.yield (I (J w)+1)) #[] #[]] },r,gf,
  #[.func (.yield (I (J w)+1)) #[] #[]]++lb,r,?_,?_,?_,?_,λ_=>h1,?_⟩
 {rw[<-L,i];exact run_enterLoop_outer _ _ _ _ _};{simp only[resolve,hg];simp[go_sem]};{intro f' n7;simp[Target.leads] at n7;subst n7;exact Fd};{simp[invoke,go_sem,eg]}
 ·refine(qr (I (J w)+1)
   (λf W=>ZQ f W/\W.heap[I (J w)+1]?=T (.loop (b .ready Y))/\W.heap[I (J w)]?=T (.deferred (T [])))
   (λf W=>∃c,Ix c f W/\W.heap[I (J w)+1]?=T (.loop (b .done (T c)))/\W.heap[I (J w)]?=T (.deferred (T [])))
   r th
   (λs A C hs ZO=>⟨X s A C hs.1 (ZO.mono (by omega)),(ZO.low.block _ (by omega)).trans hs.2.1,(ZO.low.block _ (by omega)).trans hs.2.2⟩)
   (λs A C hs ZO=>by
    obtain⟨c,hc,o,M⟩:=hs
    exact⟨c,ZP c s A C hc (ZO.mono (by omega)),(ZO.low.block _ (by omega)).trans o,(ZO.low.block _ (by omega)).trans M⟩)
   ?_ ⟨DQ,DE,ro⟩).mono ?_
  ·-- one round
   rintro f x W DS ⟨hi,o,M⟩ _;have aq:I (J w)+1<I (J W):=(Array.getElem?_eq_some_iff.1 o).1;have hy:=run_yield (P:=P) (args:=H x) o (by rw[i];exact Bk x);rw[i] at hy;refine⟨fn,_,assign,body,hy,roundIn_of_wpIn ur (R _ x W _ ⟨_,run_beginRound o (by rw[i]),?_⟩)⟩;have ph:(W.putObj (I (J w)+1) (.loop { b .ready Y with state:=.busy })).heap[I (J w)+1]?=T (.loop { b .ready Y with state:=.busy }):=World.putObj_heap_same aq;have n9:(W.putObj (I (J w)+1) (.loop { b .ready Y with state:=.busy })).heap[I (J w)]?=T (.deferred (T [])):=(World.putObj_heap_other (by omega)).trans M;have At:Upd2 ZM base (I (J r)) W (W.putObj (I (J w)+1) (.loop { b .ready Y with state:=.busy })):=Upd.two (Upd.putObj _ ⟨by omega,by omega⟩ _) ZM;refine wpIn_mono (fd _ f x _ DS (X _ _ _ hi (Itr.putObj _ (by omega) aq (λc e z h=>by rw[o] at h;cases h) _)) (by simp;omega)) ?_;have fin:∀(jump:Option Code) (m:G),Upd2 ZM base (I (J w)) (W.putObj (I (J w)+1) (.loop { b .ready Y with state:=.busy })) m ->
     (Instr.endRound (I (J w)+1) jump).run P m=.ok (ZC jump.isNone) (m.putObj (I (J w)+1) (.loop (b (if jump.isNone then .ready else .done) jump))) /\
     Itr B (I (J w)) m (m.putObj (I (J w)+1) (.loop (b (if jump.isNone then .ready else .done) jump))) /\
     (m.putObj (I (J w)+1) (.loop (b (if jump.isNone then .ready else .done) jump))).heap[I (J w)+1]?=T (.loop (b (if jump.isNone then .ready else .done) jump)) /\
     (m.putObj (I (J w)+1) (.loop (b (if jump.isNone then .ready else .done) jump))).heap[I (J w)]?=T (.deferred (T [])):=λjump m j=>by
    have ZJ:=(j.block _ (by simpa using aq) (.inr ⟨by omega,λ⟨c,z,h⟩=>by rw[ph] at h;cases h⟩)).trans ph;have q:=(j.block _ (by simp;omega) (.inr ⟨by omega,λ⟨c,z,h⟩=>by rw[n9] at h;cases h⟩)).trans n9;have ZK:=(Array.getElem?_eq_some_iff.1 ZJ).1;have:=run_endRound (P:=P) jump ZJ;have n8:Itr B (I (J w)) m (m.putObj (I (J w)+1) (.loop (b (if jump.isNone then .ready else .done) jump))):=Itr.putObj _ (by omega) ZK (λc e z h=>by rw[ZJ] at h;cases h) _;rw[i] at this n8 ⊢;exact⟨this,n8,World.putObj_heap_same ZK,(World.putObj_heap_other (by omega)).trans q⟩
   rintro e a3 m ZL;cases e with
   |normal =>obtain⟨j,ZS⟩:=ZL;obtain⟨O,y,E,q⟩:=fin Y m j;exact⟨_,_,O,.inl ⟨rfl,⟨X _ _ _ ZS y,E,q⟩,(At.trans (j.mono (by omega))).trans (Upd.two (Upd.putObj _ ⟨by omega,by omega⟩ _) ZM)⟩⟩
   |ret =>obtain⟨j,ZS⟩:=ZL;obtain⟨O,y,E,q⟩:=fin (T .ret) m j;exact⟨_,_,O,.inr ⟨rfl,.ret,ZP _ _ _ _ ZS y,E,q⟩⟩
   |exit id =>obtain⟨j,ZS⟩:=ZL;obtain⟨O,y,E,q⟩:=fin (T (.exit id)) m j;exact⟨_,_,O,.inr ⟨rfl,.exit id,ZP _ _ _ _ ZS y,E,q⟩⟩
   |goto t =>obtain⟨j,ZS⟩:=ZL;obtain⟨O,y,E,q⟩:=fin (T (.goto t)) m j;exact⟨_,_,O,.inr ⟨rfl,.goto t,ZP _ _ _ _ ZS y,E,q⟩⟩
   |panic ch=>exact ZL.elim
   |outgrown=>exact ZL.elim
  {rintro e W2 ⟨⟨v,rfl⟩,(⟨xs,hS,hi,o,M⟩|⟨f,Fk,c,hi,o,M⟩)⟩;{exact⟨Y,_,by have:=run_endLoop (P:=P) o (by rw[i];simp);rw[i] at this;exact this,ex _ xs _ (Nat.le_refl _) hS (X _ _ _ hi (Itr.putObj _ (by omega) (Array.getElem?_eq_some_iff.1 o).1 (λc e z h=>by rw[o] at h;cases h) _)) ((World.putObj_heap_other (by omega)).trans M)⟩};{exact⟨T c,_,by have:=run_endLoop (P:=P) o (by rw[i];simp);rw[i] at this;exact this,bt _ c f _ (Nat.le_refl _) Fk (ZP _ _ _ _ hi (Itr.putObj _ (by omega) (Array.getElem?_eq_some_iff.1 o).1 (λc e z h=>by rw[o] at h;cases h) _)) ((World.putObj_heap_other (by omega)).trans M)⟩}}
