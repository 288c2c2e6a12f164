import Derived.Test.YtcnilonhfpimnaaGreatDoorGW
import Derived.Deep.LoopGhost
import Derived.Test.YtcnilonhfpimnaaGreatDoorGF
import Derived.RangeFuncKeeps
import Derived.RangeFuncFrom
set_option linter.all false
set_option maxRecDepth 100000
set_option maxHeartbeats 8000000
open Go renaming Addr.mk->T,Value.slice->Y,Value.string->U,Value.int->J,Value.bool->ZF,Value.agg->ZJ,Obj.cells->N,IntKind.i64->I,World->E,Value->ZB,TypeId->ZK,Ending.returned->ZI,World.heap->z,World.ownsRow->ZZ,World.alloc->ZW,World.cell?->ZX,World.frozen?->ZY,World.setCell->ZU
open Option renaming none->Z,some->Q
open Bool renaming false->ZA,true->ZH
open Array renaming size->A
open List renaming length->ZV
namespace Go.Proofs.YtcnilonhfpimnaaGreatDoor.Ca
open RowKit Vp
structure Upd (P:Nat->Prop)(w w':E):Prop where
 os:w'.os=w.os
 tape:w'.tape=w.tape
 output:w'.output=w.output
 size:A (z w)<=A (z w')
 p:∀k,k<A (z w)->¬ P k->w'.heap[k]?=w.heap[k]?
def Upd.refl (P:Nat->Prop)(w:E):Upd P w w:=⟨rfl,rfl,rfl,Nat.le_refl _,λ_ _ _=>rfl⟩
def Upd.k {P:Nat->Prop}{a b c:E}(h:Upd P a b)(k:Upd P b c):Upd P a c:=
 ⟨k.os.k h.os,k.tape.k h.tape,k.output.k h.output,Nat.le_trans h.size k.size,λi hi f=>(k.p i (Nat.lt_of_lt_of_le hi h.size) f).k (h.p i hi f)⟩
def Upd.P {P ZO:Nat->Prop}{a b:E}(h:Upd P a b)(f:∀k,P k->ZO k):Upd ZO a b:=
 ⟨h.os,h.tape,h.output,h.size,λi hi g=>h.p i hi (λj=>g (f i j))⟩
def Upd.setCell {P:Nat->Prop}(w:E){p:Addr}(b:P p.block)(v:ZB):Upd P w (w.setCell p v):=
 ⟨rfl,rfl,rfl,by simp[World.setCell],λk _ f=>Below.heap_setCell _ _ _ _ (λe=>f (e ▸ b))⟩
def Upd.putObj {P:Nat->Prop}(w:E){l:Nat}(b:P l)(o:Obj):Upd P w (w.putObj l o):=
 ⟨rfl,rfl,rfl,by simp,λk _ f=>World.putObj_heap_other (λe=>f (e ▸ b))⟩
def dO {n:Nat}(w:E){l:Nat}(hn:n<=l)(hl:l<A (z w))(o:Obj):Below n w (w.putObj l o):=
 (Below.refl n w).grown (grownBy_putObj' w l o) (by omega) (λk e=>by cases e;exact hn)
def DX {f:Type}(F:Fence)(n:Nat)(P:Program)(g:Nat)(r:Array ZB)(j:f->Array ZB)(p:f->Prop)(m:Nat)(S q:List f->Prop)(ZQ:Nat)(w:E):Prop:=
 ∀(l:Nat) (ZR i:List f->E->Prop) (W:E),Below (A (z w)) w W->(∀s Z8 B,ZR s Z8->Below (A (z W)) Z8 B->ZR s B)->(∀s Z8 B,i s Z8->Below (A (z W)) Z8 B->i s B) ->
  (∀pre x h,p x->ZR pre h->ZV pre<ZQ->A (z W)<=A (z h)->YieldAt F (n - 1) P l (j x) h λe b =>
   (e=ZI (ZF ZH)/\ZR (pre++[x]) b/\Upd (λk=>m<=k/\k<A (z W)) h b)\/(e=ZI (ZF ZA)/\i (pre++[x]) b)) ->
  ZR [] W ->
  CallsIn F n P g (#[.func (.yield l) #[] #[]]++r) W λe b=>(∃v,e=ZI v)/\((∃o,S o/\ZR o b)\/(∃pre,q pre/\i pre b))
def Jn {i:Type}(f b:Nat)(ZS:List i->E->Prop)(h:Code->List i->E->Prop)(g:List i)(W:E):Exit->Act->E->Prop
 |.normal,_,W'=>Upd (λk=>f<=k/\k<b) W W'/\ZS g W'
 |.ret,_,W'=>Upd (λk=>f<=k/\k<b) W W'/\h .ret g W'
 |.exit id,_,W'=>Upd (λk=>f<=k/\k<b) W W'/\h (.exit id) g W'
 |.goto t,_,W'=>Upd (λk=>f<=k/\k<b) W W'/\h (.goto t) g W'
 |.panic _,_,_=>False
 |.outgrown,_,_=>False
def jI {F:Fence}{n:Nat}{P:Program}{q:Type}{g:Operand}{ZM:Array Tmp}{assign body:Code}{ZO:Exit->Act->E->Prop}{a:Act}{w:E}
  (ph:F.round=Z) (h1:1<=n) {gf:Nat} {lb:Array ZB} (hg:a.eval g=.func (.func gf) #[] lb) (Bk:F.fn gf) (eg:∀args w,(callFunc gf args).run P w=.ok (.enter gf args) w)
  {C:q->Array ZB} {Ox:q->Prop} {base:Nat} {S Sp:List q->Prop} {ZQ:Nat} {O:E} (hbase:base<=A (z w)) (n8:DX F (n - 1) P gf lb C Ox base S Sp ZQ O) (fd:Below (A (z O)) O w) (Fm:∀x,(C x).size=ZM.size)
  (ZS:List q->E->Prop) (ZN:Code->List q->E->Prop) (R:∀s Z8 B,ZS s Z8->Below (A (z w)) Z8 B->ZS s B) (ZT:∀c s Z8 B,ZN c s Z8->Below (A (z w)) Z8 B->ZN c s B) (h0:ZS [] w) (X:q->Act)
  (M:∀(l:Nat) (x:q) (W:E) (K:Act->E->Prop),K (X x) W ->
   assign.wpIn (F.inRound l) (n - 1 - 1) P (Exit.then K (λ_ _ _=>False)) { tmps:=(ZM.zip (C x)).foldl (λt (p,v)=>t.setIfInBounds p v) a.tmps,defers:=[] } W)
  (bt:∀(l:Nat) (pre:List q) (x:q) (W:E),Ox x->ZS pre W->ZV pre<ZQ->A (z w)<=A (z W)->body.wpIn (F.inRound l) (n - 1 - 1) P (Jn base (A (z w)) ZS ZN (pre++[x]) W) (X x) W)
  (ex:∀(D:Nat) (xs:List q) (W:E),A (z w)<=D->S xs->ZS xs W->W.heap[D]?=Q (.deferred (Q []))->ZO .normal { a with defers:={ target:=.collected D,args:=#[] } :: a.defers } W)
  (aq:∀(D:Nat) (c:Code) (pre:List q) (W:E),A (z w)<=D->Sp pre->ZN c pre W->W.heap[D]?=Q (.deferred (Q []))->c.wpIn F n P ZO { a with defers:={ target:=.collected D,args:=#[] } :: a.defers } W) :
  (Code.rangeFunc g ZM assign body).wpIn F n P ZO a w:=by
 refine wpIn_rangeFunc ?_;intro fn Fk;rw[ph];obtain⟨b,f⟩:∃b:LoopState->Option Code->Loop,b=λst pe=>{ state:=st,pending:=pe,fn,tmps:=a.tmps,params:=ZM,assign,body,defers:=A (z w) }:=⟨_,rfl⟩
 obtain⟨m,G⟩:∃m,(w.alloc (.deferred (Q []))).alloc (.loop (b .ready Z))=m:=⟨_,rfl⟩
 have hs1:A (z m)=A (z w)+2:=by rw[<-G];simp
 have th:m.heap[A (z w)+1]?=Q (.loop (b .ready Z)):=by rw[<-G];have:=World.alloc_heap_new (w.alloc (.deferred (Q []))) (.loop (b .ready Z));rwa[World.size_alloc] at this
 have sm:m.heap[A (z w)]?=Q (.deferred (Q [])):=by rw[<-G];exact(Below.heap_alloc _ _ _ (by simp)).k (World.alloc_heap_new w _)
 have la:Below (A (z w)) w m:=by rw[<-G];exact((Below.refl _ w).alloc ly _).alloc (by simp) _
 have At:ZS [] m:=R _ _ _ h0 la;have DQ:Below (A (z O)) O m:=fd.k (la.P fd.size)
 refine⟨A (z w)+1,[{ target:=.collected (A (z w)),args:=#[] }],m,{ target:=.fn (.func gf) lb,args:=#[.func (.yield (A (z w)+1)) #[] #[]] },m,gf,
  #[.func (.yield (A (z w)+1)) #[] #[]]++lb,m,?_,?_,?_,?_,λ_=>h1,?_⟩
 {rw[<-G,f];exact run_enterLoop_outer _ _ _ _ _};{simp only[resolve,hg];simp[go_sem]};{intro f' ld;simp[Target.leads] at ld;subst ld;exact Bk};{simp[invoke,go_sem,eg]}
 ·refine(n8 (A (z w)+1)
   (λpre W=>ZS pre W/\W.heap[A (z w)+1]?=Q (.loop (b .ready Z))/\W.heap[A (z w)]?=Q (.deferred (Q [])))
   (λpre W=>∃c,ZN c pre W/\W.heap[A (z w)+1]?=Q (.loop (b .done (Q c)))/\W.heap[A (z w)]?=Q (.deferred (Q [])))
   m DQ
   (λs Z8 B ZL H=>⟨R s Z8 B ZL.1 (H.P (by omega)),(H.p _ (by omega)).k ZL.2.1,(H.p _ (by omega)).k ZL.2.2⟩)
   (λs Z8 B ZL H=>by
    obtain⟨c,hc,o,Z9⟩:=ZL
    exact⟨c,ZT c s Z8 B hc (H.P (by omega)),(H.p _ (by omega)).k o,(H.p _ (by omega)).k Z9⟩)
   ?_ ⟨At,th,sm⟩).P ?_
  ·-- one round
   rintro pre x W ro⟨hi,o,Z9⟩ n9 _;have V:A (z w)+1<A (z W):=(Array.getElem?_eq_some_iff.1 o).1;have hy:=run_yield (P:=P) (args:=C x) o (by rw[f];exact Fm x);rw[f] at hy;refine⟨fn,_,assign,body,hy,roundIn_of_wpIn Fk (M _ x W _ ⟨_,run_beginRound o (by rw[f]),?_⟩)⟩;have Fd:(W.putObj (A (z w)+1) (.loop { b .ready Z with state:=.busy })).heap[A (z w)+1]?=Q (.loop { b .ready Z with state:=.busy }):=World.putObj_heap_same V;have qr:(W.putObj (A (z w)+1) (.loop { b .ready Z with state:=.busy })).heap[A (z w)]?=Q (.deferred (Q [])):=(World.putObj_heap_other (by omega)).k Z9;have ur:Upd (λk=>base<=k/\k<A (z m)) W (W.putObj (A (z w)+1) (.loop { b .ready Z with state:=.busy })):=Upd.putObj _ ⟨by omega,by omega⟩ _;refine wpIn_mono (bt _ pre x _ ro (R _ _ _ hi (dO _ (by omega) V _)) n9 (by simp;omega)) ?_;have fin:∀(jump:Option Code) (j:E),Upd (λk=>base<=k/\k<A (z w)) (W.putObj (A (z w)+1) (.loop { b .ready Z with state:=.busy })) j ->
     (Instr.endRound (A (z w)+1) jump).run P j=.ok (ZF jump.isNone) (j.putObj (A (z w)+1) (.loop (b (if jump.isNone then .ready else .done) jump))) /\
     Below (A (z w)) j (j.putObj (A (z w)+1) (.loop (b (if jump.isNone then .ready else .done) jump))) /\
     (j.putObj (A (z w)+1) (.loop (b (if jump.isNone then .ready else .done) jump))).heap[A (z w)+1]?=Q (.loop (b (if jump.isNone then .ready else .done) jump)) /\
     (j.putObj (A (z w)+1) (.loop (b (if jump.isNone then .ready else .done) jump))).heap[A (z w)]?=Q (.deferred (Q [])):=λjump j h=>by
    have mv:=(h.p _ (by simpa using V) (by omega)).k Fd;have i:=(h.p _ (by simp;omega) (by omega)).k qr;have ZP:=(Array.getElem?_eq_some_iff.1 mv).1;have:=run_endRound (P:=P) jump mv;rw[f] at this ⊢;exact⟨this,dO _ (by omega) ZP _,World.putObj_heap_same ZP,(World.putObj_heap_other (by omega)).k i⟩
   rintro e a3 j L;cases e with
   |normal =>obtain⟨h,y⟩:=L;obtain⟨ZR,r,u,i⟩:=fin Z j h;exact⟨_,_,ZR,.inl ⟨rfl,⟨R _ _ _ y r,u,i⟩,(ur.k (h.P (λk Z9=>⟨Z9.1,by omega⟩))).k (Upd.putObj _ ⟨by omega,by omega⟩ _)⟩⟩
   |ret =>obtain⟨h,y⟩:=L;obtain⟨ZR,r,u,i⟩:=fin (Q .ret) j h;exact⟨_,_,ZR,.inr ⟨rfl,.ret,ZT _ _ _ _ y r,u,i⟩⟩
   |exit id =>obtain⟨h,y⟩:=L;obtain⟨ZR,r,u,i⟩:=fin (Q (.exit id)) j h;exact⟨_,_,ZR,.inr ⟨rfl,.exit id,ZT _ _ _ _ y r,u,i⟩⟩
   |goto t =>obtain⟨h,y⟩:=L;obtain⟨ZR,r,u,i⟩:=fin (Q (.goto t)) j h;exact⟨_,_,ZR,.inr ⟨rfl,.goto t,ZT _ _ _ _ y r,u,i⟩⟩
   |panic ch=>exact L.elim
   |outgrown=>exact L.elim
  {rintro e W2⟨⟨v,rfl⟩,(⟨xs,hS,hi,o,Z9⟩|⟨pre,DE,c,hi,o,Z9⟩)⟩;{exact⟨Z,_,by have:=run_endLoop (P:=P) o (by rw[f];simp);rw[f] at this;exact this,ex _ xs _ ly hS (R _ _ _ hi (dO _ (by omega) (Array.getElem?_eq_some_iff.1 o).1 _)) ((World.putObj_heap_other (by omega)).k Z9)⟩};{exact⟨Q c,_,by have:=run_endLoop (P:=P) o (by rw[f];simp);rw[f] at this;exact this,aq _ c pre _ ly DE (ZT _ _ _ _ hi (dO _ (by omega) (Array.getElem?_eq_some_iff.1 o).1 _)) ((World.putObj_heap_other (by omega)).k Z9)⟩}}
def OfTy (w:E)(k:Nat)(e:ZK):Prop:=∃c Z9,w.heap[k]?=Q (N c e Z9)
def OfTy.eq {w b:E}{k:Nat}{e:ZK}(h:OfTy w k e)(hb:b.heap[k]?=w.heap[k]?):OfTy b k e:=by obtain⟨c,Z9,h⟩:=h;exact⟨c,Z9,hb.k h⟩
def OfTy.ne {w:E}{k:Nat}{e b:ZK}(h:OfTy w k e)(hn:b≠e):¬ OfTy w k b:=by
 obtain⟨c,Z9,h⟩:=h;rintro⟨c',z',f⟩;rw[h] at f;cases f
 exact hn rfl
def OfTy.set {w:E}{k:Nat}{e:ZK}(h:OfTy w k e)(p:Addr)(v:ZB):OfTy (w.setCell p v) k e:=by
 obtain⟨c,Z9,h⟩:=h;by_cases b:p.block=k;{subst b;have hlt:=(Array.getElem?_eq_some_iff.1 h).1;have he:=(Array.getElem?_eq_some_iff.1 h).2;exact⟨if p.spot.isSome=ZH then c else c.setIfInBounds p.off v,Z9,by simp[World.setCell,Array.getElem?_modify,h]⟩};{exact⟨c,Z9,(Below.heap_setCell _ _ _ _ (λe=>b e.c)).k h⟩}
def OfTy.new (w:E)(c:Array ZB)(e:ZK):OfTy (w.alloc (N c e)) (A (z w)) e:=⟨c,_,World.alloc_heap_new w _⟩
structure Upd2 (ZP:ZK)(base n₀:Nat)(w w':E):Prop where
 os:w'.os=w.os
 tape:w'.tape=w.tape
 output:w'.output=w.output
 size:A (z w)<=A (z w')
 p:∀k,k<A (z w)->(k<base\/(n₀<=k/\¬ OfTy w k ZP))->w'.heap[k]?=w.heap[k]?
def Upd.two {f b:Nat}{w g:E}(h:Upd (λk=>f<=k/\k<b) w g)(ZP:ZK):Upd2 ZP f b w g:=⟨h.os,h.tape,h.output,h.size,λk i hp=>h.p k i (by omega)⟩
def Upd2.aa {ZP:ZK}{f g:Nat}{a b:E}(h:Upd2 ZP f g a b)(hb:f<=A (z a)):Below f a b:=⟨h.os,h.tape,h.output,h.size,λk i=>h.p k (by omega) (.inl i)⟩
structure Itr (B:ZK)(n:Nat)(w w':E):Prop where
 low:Below n w w'
 keep:∀(k:Nat) (c:Array ZB) (e:ZK) (Z9:Nat × Nat),w.heap[k]?=Q (Obj.cells c e Z9)->e≠B->w'.heap[k]?=w.heap[k]?
def Itr.l {B:ZK}{n m:Nat}{w b:E}(h:Below m w b)(f:A (z w)<=m)(hn:n<=m):Itr B n w b:=
 ⟨h.P hn,λk _ _ _ g _=>h.p k (Nat.lt_of_lt_of_le (Array.getElem?_eq_some_iff.1 g).1 f)⟩
def Itr.setCell {B:ZK}{n:Nat}(w:E){p:Addr}(hn:n<=p.block)(i:OfTy w p.block B)(v:ZB):Itr B n w (w.setCell p v):=
 ⟨(Below.refl n w).setCell hn v,λk c e Z9 g f=>Below.heap_setCell _ _ _ _ (λh=>by
  obtain⟨c',z',b⟩:=i;rw[<-h,g] at b;cases b
  exact f rfl)⟩
def SeqT2 {f:Type}(ZP B:ZK)(F:Fence)(n:Nat)(P:Program)(g:Nat)(r:Array ZB)(j:f->Array ZB)(p:List f->f->Prop)(m:Nat)(S q:List f->Prop)(w:E):Prop:=
 ∀(l:Nat) (ZR i:List f->E->Prop) (W:E),Below (A (z w)) w W->(∀s Z8 C,ZR s Z8->Itr B (A (z W)) Z8 C->ZR s C)->(∀s Z8 C,i s Z8->Itr B (A (z W)) Z8 C->i s C) ->
  (∀pre x h,p pre x->ZR pre h->A (z W)<=A (z h)->YieldAt F (n - 1) P l (j x) h λe b =>
   (e=ZI (ZF ZH)/\ZR (pre++[x]) b/\Upd2 ZP m (A (z W)) h b)\/(e=ZI (ZF ZA)/\i (pre++[x]) b)) ->
  ZR [] W ->
  CallsIn F n P g (#[.func (.yield l) #[] #[]]++r) W λe b=>(∃v,e=ZI v)/\((∃o,S o/\ZR o b)\/(∃pre,q pre/\i pre b))
def YieldAt.mono2 {F:Fence}{m:Nat}{P:Program}{l:Nat}{args:Array ZB}{W:E}{R f:Ending->E->Prop}(h:YieldAt F m P l args W R)(hR:∀e b,R e b->f e b):YieldAt F m P l args W f:=by obtain⟨fn,tmps,assign,body,i,g⟩:=h;exact⟨fn,tmps,assign,body,i,g.P hR⟩
def SeqT2.plain {j:Type}{ZP B:ZK}{F:Fence}{n:Nat}{P:Program}{g:Nat}{t:Array ZB}{f:j->Array ZB}{p:List j->j->Prop}{m:j->Prop}{i:Nat}{S r:List j->Prop}{ZQ:Nat}{w:E}(h:SeqT2 ZP B F n P g t f p i S r w)(q:∀pre x,p pre x->m x/\(ZV pre)<ZQ):DX F n P g t f m i S r ZQ w:=
 λl ZR Z9 W K ZT u y D=>h l ZR Z9 W K (λs Z8 C o hi=>ZT s Z8 C o hi.low) (λs Z8 C o hi=>u s Z8 C o hi.low) (λpre x ZS h1 h2 G=>YieldAt.mono2 (y pre x ZS (q pre x h1).1 h2 (q pre x h1).2 G) λ_ _ H=>H.imp (λ⟨a,b,c⟩=>⟨a,b,c.two ZP⟩) id) D
end Go.Proofs.YtcnilonhfpimnaaGreatDoor.Ca
namespace Go.Proofs.YtcnilonhfpimnaaGreatDoor.Vp
open RowKit Ca
def du (x:Link):List ZB:=[U x.e,ZF x.ask,ZF x.has,J I x.G]
def cy (f:Nat->Link)(n:Nat):List ZB:=((List.range n).map f).flatMap du
def iT (f:Nat->Link)(n:Nat):(cy f n).length=n*4:=by rw[cy,fA du 4 (λ_=>rfl)];simp
def jJ (f:Nat->Link){n i:Nat}(hi:i<n)(j:Nat)(b:j<4):(cy f n)[i*4+j]?=(du (f i))[j]? :=
 cT du 4 (λ_=>rfl) _ i j b (f i) (by simp[hi])
def AU (f:Nat->Link)(n:Nat):∀u∈cy f n,u.oneCell'=ZH:=by intro u g;simp only[cy,QP,du] at g;obtain⟨x,_,b⟩:=g;simp at b;rcases b with rfl|rfl|rfl|rfl<;>simp[Value.oneCell']
def DY {w:E}{b off n:Nat}{f:Nat->Link}(h:RowLink w b off n f):∀j u,(cy f n)[j]?=Q u->w.cell? (((T b off Z):Addr).add j)=Q u:=by
 intro j u g;have hl:j<n*4:=by have:=(j5.1 g).1;rwa[iT] at this
 have e:j=j / 4*4+j % 4:=by omega
 have hi:j / 4<n:=by omega
 obtain⟨i,h1,h2,l⟩:=h.2 (j / 4) hi;have o:j % 4<4:=UJ _ (by omega);rw[e,jJ f hi (j % 4) o] at g;have m:((T b off Z):Addr).add j=(T b (off+j) Z):=addr_add _ _ _;rw[m];rcases(show j % 4=0\/j % 4=1\/j % 4=2\/j % 4=3 by omega) with q|q|q|q;all_goals rw[q] at g;simp[du] at g;subst g
 {rw[show off+j=off+j / 4*4 by omega];exact i};{rw[show off+j=off+j / 4*4+1 by omega];exact h1};{rw[show off+j=off+j / 4*4+2 by omega];exact h2};{rw[show off+j=off+j / 4*4+3 by omega];exact l}
def ew {w j:E}{b size n:Nat}{e:ZK}{v:ZB}{m:List ZB}(h:ZZ w b e size v n m)(hb:∀k,v.ownBlock=Q k->OfTy w k e->j.heap[k]?=w.heap[k]?):ZZ j b e size v n m:=by
 refine⟨h.1,?_⟩;rcases h.2 with hn|⟨g,j_,f,rfl,l,i,rest⟩
 {exact .inl hn};{exact .inr ⟨g,j_,f,rfl,l,(hb g rfl ⟨f,_,i⟩).k i,rest⟩}
def fS {w:E}{b size n:Nat}{e:ZK}{v:ZB}{j:List ZB}(h:ZZ w b e size v n j):∀k,v.ownBlock=Q k->OfTy w k e:=by
 intro k f;rcases h.2 with⟨rfl,_⟩|⟨g,j_,i,rfl,_,l,_⟩
 {simp[Value.ownBlock] at f};{simp[Value.ownBlock] at f;subst f;exact⟨i,_,l⟩}
def dr {w:E}{b size n:Nat}{e:ZK}{v:ZB}{f:List ZB}(h:ZZ w b e size v n f)(hn:0<n):∃g j_,v=Y (Q (T g 0 Z)) n j_:=by
 rcases h.2 with⟨_,h2⟩|⟨g,c,cur,h1,_⟩
 {omega};{exact⟨g,c,h1⟩}
def lQ {w:E}{b size n:Nat}{e:ZK}{v:ZB}{f:List ZB}(h:ZZ w b e size v n f):∃a j_,v=Y a n j_:=by
 rcases h.2 with⟨h1,h2⟩|⟨g,c,cur,h1,_⟩
 {exact⟨Z,0,by rw[h1,h2]⟩};{exact⟨_,_,h1⟩}
abbrev DR:=au × ZB × ZB
def ddV (r:DR):List ZB:=[U r.1.e,J I r.1.L,J I r.1.M,U r.1.H,r.2.1,r.2.2]
structure DSub (w:E)(base:Nat)(r:DR):Prop where
 q:ZZ w base 102 3 r.2.1 r.1.h (bZ r.1.q r.1.h)
 az:ZZ w base 65 4 r.2.2 r.1.f (cy r.1.m r.1.f)
def Apt (a b:ZB):Prop:=a.ownBlock=Z\/a.ownBlock≠b.ownBlock
structure DRow (w:E)(base:Nat)(v:ZB)(R:List DR):Prop where
 u:ZZ w base 62 6 v (ZV R) (R.flatMap ddV)
 sub:∀r∈R,DSub w base r
 up:R.Pairwise λa b=>Apt a.2.1 b.2.1/\Apt a.2.2 b.2.2
def DSub.ad {w w':E}{b:Nat}{r:DR}(h:DSub w b r)(hb:∀k,OfTy w k 102\/OfTy w k 65->b<=k->w'.heap[k]?=w.heap[k]?):DSub w' b r:=
 ⟨ew h.q λk g f=>hb k (.inl f) (h.q.lt k g).1,ew h.az λk g f=>hb k (.inr f) (h.az.lt k g).1⟩
def DSub.aa {w g:E}{b B:Nat}{r:DR}(h:DSub w b r)(hb:Below B w g)(f:A (z w)<=B):DSub g b r:=⟨J_ h.q hb f,J_ h.az hb f⟩
def DSub.P {w:E}{b base':Nat}{r:DR}(h:DSub w b r)(hb:base'<=b):DSub w base' r:=⟨aE h.q hb,aE h.az hb⟩
def DRow.ad {w w':E}{b:Nat}{v:ZB}{R:List DR}(h:DRow w b v R)(hb:∀k,OfTy w k 102\/OfTy w k 65\/OfTy w k 62->b<=k->w'.heap[k]?=w.heap[k]?):DRow w' b v R:=
 ⟨ew h.u λk f i=>hb k (.inr (.inr i)) (h.u.lt k f).1,λr g=>(h.sub r g).ad λk f=>hb k (f.imp id .inl),h.up⟩
def DRow.aa {w g:E}{b B:Nat}{v:ZB}{R:List DR}(h:DRow w b v R)(hb:Below B w g)(f:A (z w)<=B):DRow g b v R:=
 ⟨J_ h.u hb f,λr i=>(h.sub r i).aa hb f,h.up⟩
def DRow.P {w:E}{b base':Nat}{v:ZB}{R:List DR}(h:DRow w b v R)(hb:base'<=b):DRow w base' v R:=⟨aE h.u hb,λr f=>(h.sub r f).P hb,h.up⟩
def DRow.set {w:E}{b:Nat}{v:ZB}{R:List DR}(h:DRow w b v R){p:Addr}{e:ZK}(i:p.block<b\/(OfTy w p.block e/\e≠102/\e≠65/\e≠62))(u:ZB):DRow (w.setCell p u) b v R:=
 h.ad λk f hb=>qh _ _ _ _ (λx=>by
  subst x;rcases i with i|⟨g,h1,h2,j⟩
  ·omega
  ·rcases f with f|f|f
   ·exact g.ne (Ne.symm h1) f
   ·exact g.ne (Ne.symm h2) f
   ·exact g.ne (Ne.symm j) f)
def jK (w:E)(b:Nat):DRow w b (Y Z 0 0) []:=⟨CP _ _ _ _,λr f=>absurd f (by simp),List.Pairwise.nil⟩
def DRow.more {w g m:E}{i:Nat}{v y:ZB}{R:List DR}{r:DR}(h:DRow w i v R)(h1:DRow g i v R)(l:i<=A (z w))(o:DSub g (A (z w)) r)
  (p:ZZ m i 62 6 y (ZV R+1) (R.flatMap ddV++ddV r)) (u:g.grownBy m v.ownBlock):DRow m i y (R++[r]):=by
 have s:∀k,OfTy g k 102\/OfTy g k 65->Q k≠v.ownBlock:=λk f e=>by
  have q:=fS h1.u k e.c;rcases f with f|f;{exact q.ne (by decide) f};{exact q.ne (by decide) f}
 have t:∀k,OfTy g k 102\/OfTy g k 65->k<A (z g):=λk f=>by rcases f with⟨c,Z9,f⟩|⟨c,Z9,f⟩<;>exact(CV.1 f).1
 have keep:∀k,OfTy g k 102\/OfTy g k 65->m.heap[k]?=g.heap[k]?:=λk f=>u.p k (t k f) (s k f);refine⟨by simpa using p,λx j=>?_,?_⟩;{rcases p8.1 j with j|j;{exact(h1.sub x j).ad λk f _=>keep k f};{simp at j;subst j;exact(o.ad λk f _=>keep k f).P l}}
 ·rw[PC];refine⟨h.up,by simp,λa B b n=>?_⟩;simp at n;subst n;have Z8:=h.sub a B;refine⟨?_,?_⟩
  ·cases f:a.2.1.ownBlock with
   |none=>exact .inl f
   |some k =>refine .inr λe=>?_;have h1:=(Z8.q.lt k f).2;have h2:=(o.q.lt k (e ▸ f)).1;omega
  ·cases f:a.2.2.ownBlock with
   |none=>exact .inl f
   |some k =>refine .inr λe=>?_;have h1:=(Z8.az.lt k f).2;have h2:=(o.az.lt k (e ▸ f)).1;omega
def Ea {w:E}{b n g j_:Nat}{f:Nat->Link}(h:ZZ w b 65 4 (Y (Q (T g 0 Z)) n j_) n (cy f n)):RowLink w g 0 n f:=by
 refine⟨(cV h).2,λi hi=>?_⟩;have c:∀j,j<4->∀u,(du (f i))[j]?=Q u->ZX w (T g (0+i*4+j) Z)=Q u:=λj l u m=>by have:=(bA h (j:=i*4+j) (u:=u) (by rw[jJ f hi j l];exact m)).1;rwa[show 0+i*4+j=i*4+j by omega]
 exact⟨c 0 (by omega) _ rfl,c 1 (by omega) _ rfl,c 2 (by omega) _ rfl,c 3 (by omega) _ rfl⟩
def DSub.ins {w:E}{f:Nat}{r:DR}(h:DSub w f r):∃a j_,r.2.1=Y a r.1.h j_/\SlIns w a r.1.h r.1.q:=by
 obtain⟨a,j_,e⟩:=lQ h.q;refine⟨a,j_,e,?_⟩;by_cases hz:r.1.h=0;{exact .inl hz}
 ·obtain⟨g,c,b⟩:=dr h.q (by omega);have i:=h.q;rw[b] at i;rw[e] at b;cases b
  exact .inr ⟨g,0,rfl,(kY i).1⟩
def DSub.m {w:E}{f:Nat}{r:DR}(h:DSub w f r):∃a j_,r.2.2=Y a r.1.f j_/\SlLink w a r.1.f r.1.m:=by
 obtain⟨a,j_,e⟩:=lQ h.az;refine⟨a,j_,e,?_⟩;by_cases hz:r.1.f=0;{exact .inl hz}
 ·obtain⟨g,c,b⟩:=dr h.az (by omega);have i:=h.az;rw[b] at i;rw[e] at b;cases b
  exact .inr ⟨g,0,rfl,Ea i⟩
def dG {R:List DR}{i:Nat}(hi:i<ZV R):∃r,R[i]?=Q r/\r∈R:=⟨R[i],gq hi,gz hi⟩
def iM {R:List DR}{i:Nat}{r:DR}(h:R[i]?=Q r):dF (R.map (·.1)) i=r.1:=by unfold dF;rw[CL,LR,h];rfl
def iU {w:E}{b g j_:Nat}{R:List DR}(h:ZZ w b 62 6 (Y (Q (T g 0 Z)) (ZV R) j_) (ZV R) (R.flatMap ddV)){i:Nat}{r:DR}(l:R[i]?=Q r)(j:Nat)(f:j<6){u:ZB}(m:(ddV r)[j]?=Q u):ZX w (T g (i*6+j) Z)=Q u/\ZY w (T g (i*6+j) Z)=ZA:=
 bA h (j:=i*6+j) (u:=u) (by rw[cT ddV 6 (λ_=>rfl) R i j f r l];exact m)
def DRow.bd {w:E}{b c:Nat}{a:O_}{R:List DR}(h:DRow w b (Y a (ZV R) c) R):SlDeed w a (ZV R) (dF (R.map (·.1))):=by
 by_cases hz:ZV R=0;{exact .inl hz}
 ·obtain⟨g,c',e⟩:=dr h.u (by omega);cases e
  refine .inr ⟨g,0,rfl,(cV h.u).2,λi hi=>?_⟩;obtain⟨r,f,l⟩:=dG hi;rw[iM f];have c:∀j,j<6->∀u,(ddV r)[j]?=Q u->ZX w (T g (0+i*6+j) Z)=Q u:=λj n u s=>by rw[show 0+i*6+j=i*6+j by omega];exact(iU h.u f j n s).1
  obtain⟨m,c4,t,p⟩:=(h.sub r l).ins;obtain⟨o,c5,q,x⟩:=(h.sub r l).m;exact⟨c 0 (by omega) _ rfl,c 1 (by omega) _ rfl,c 2 (by omega) _ rfl,c 3 (by omega) _ rfl,⟨m,c4,by rw[<-t];exact c 4 (by omega) _ rfl,p⟩,⟨o,c5,by rw[<-q];exact c 5 (by omega) _ rfl,x⟩⟩
def rAt (R:List DR)(i:Nat):DR:=R.getD i (fG,Y Z 0 0,Y Z 0 0)
def ra (R:List DR)(i:Nat):Nat:=(rAt R i).1.h
def rl (R:List DR)(i:Nat):Nat:=(rAt R i).1.f
structure CpB (W:E)(h:Nat)(v vo:ZB):Prop where
 size:h+3<=A (z W)
 a:ZX W (T h 0 Z)=Q v
 r:ZX W (T (h+1) 0 Z)=Q (Y Z 0 0)/\ZY W (T (h+1) 0 Z)=ZA
 o:ZX W (T (h+2) 0 Z)=Q vo/\ZY W (T (h+2) 0 Z)=ZA
def ut (W:E)(v:ZB)(t:ZK):ZX (ZW W (N #[v] t)) (T (A (z W)) 0 Z)=Q v/\ZY (ZW W (N #[v] t)) (T (A (z W)) 0 Z)=ZA:=by constructor<;>simp
def IC (w:E)(v:ZB)(b:ZK):CpB (ZW (ZW (ZW w (N #[v] b)) (N #[Y Z 0 0] b)) (N #[Y Z 0 0] b)) (A (z w)) v (Y Z 0 0):=by
 obtain⟨f,m⟩:∃f,ZW w (N #[v] b)=f:=⟨_,rfl⟩
 obtain⟨g,l⟩:∃g,ZW f (N #[Y Z 0 0] b)=g:=⟨_,rfl⟩
 obtain⟨h,j⟩:∃h,ZW g (N #[Y Z 0 0] b)=h:=⟨_,rfl⟩
 rw[m,l,j];have z1:A (z f)=A (z w)+1:=by rw[<-m];simp
 have z2:A (z g)=A (z w)+2:=by rw[<-l];simp;omega
 have z3:A (z h)=A (z w)+3:=by rw[<-j];simp;omega
 have i:Below (A (z g)) g h:=by rw[<-j];exact br.alloc ly _
 have o:Below (A (z f)) f h:=(by rw[<-l];exact br.alloc ly _:Below (A (z f)) f g).k (i.P (by omega));have n1:=ut w v b;have n:=ut f (Y Z 0 0) b;have q:=ut g (Y Z 0 0) b;rw[m] at n1;rw[l,z1] at n;rw[j,z2] at q;exact⟨by omega,(o.O (p:=(T (A (z w)) 0 Z)) (by show (A (z w))<_;omega)).k n1.1,⟨(i.O (p:=(T (A (z w)+1) 0 Z)) (by show (A (z w))+1<_;omega)).k n.1,(i.frozen (p:=(T (A (z w)+1) 0 Z)) (by show (A (z w))+1<_;omega)).k n.2⟩,q⟩
def CpB.aa {W g:E}{h B:Nat}{v j:ZB}(b:CpB W h v j)(hb:Below B W g)(hB:h+3<=B):CpB g h v j:=by have c:∀k o,k<B->ZX g (T k o Z)=ZX W (T k o Z):=λk o i=>hb.O (p:=(T k o Z)) i;have f:∀k o,k<B->ZY g (T k o Z)=ZY W (T k o Z):=λk o i=>hb.frozen (p:=(T k o Z)) i;exact⟨nX b.size hb.size,(c _ _ (by omega)).k b.a,⟨(c _ _ (by omega)).k b.r.1,(f _ _ (by omega)).k b.r.2⟩,⟨(c _ _ (by omega)).k b.o.1,(f _ _ (by omega)).k b.o.2⟩⟩
def CpB.i {W:E}{h:Nat}{v f:ZB}(b:CpB W h v f)(u:ZB):CpB (ZU W (T (h+2) 0 Z) u) h v u:=by have c:∀k o,k≠h+2->ZX (ZU W (T (h+2) 0 Z) u) (T k o Z)=ZX W (T k o Z):=λk o g=>K_ _ _ _ _ (by simpa using λe=>g e.c);exact⟨by simpa using b.size,(c _ _ (by omega)).k b.a,⟨(c _ _ (by omega)).k b.r.1,by simpa using b.r.2⟩,⟨BO _ _ _ (by rw[b.o.1];rfl),by simpa using b.o.2⟩⟩
def ID (w:E)(n f i g m l:ZB)(t:ZK):∀j u,[n,f,i,g,m,l][j]?=Q u->(ZW w (N #[n,f,i,g,m,l] t)).cell? (((T (A (z w)) 0 Z):Addr).add j)=Q u:=by
 intro j u b;have hj:j<6:=by have:=(j5.1 b).1;simpa using this
 have h:=jG w n f i g m l t;rw[addr_add,IT];rcases(show j=0\/j=1\/j=2\/j=3\/j=4\/j=5 by omega) with rfl|rfl|rfl|rfl|rfl|rfl;all_goals simp only[List.getElem?_cons_zero,VH,L8] at b;subst b
 {exact h.c0.1};{exact h.c1.1};{exact h.c2.1};{exact h.c3.1};{exact h.c4.1};{exact h.c5.1}
def da (f:Nat->au)(d:Int)(x:Nat × Nat):Int:=if (f x.1).L=3/\60<=x.2/\(d<0\/(x.1:Int)<d) then (x.1:Int) else d
def cW (f:Nat->au)(d:Int):List (Nat × Nat)->Int
 |[]=>d
 |x::xs=>cW f (da f d x) xs
def mV (f:Nat->au)(d:Int)(b g:List (Nat × Nat)):cW f d (b++g)=cW f (cW f d b) g:=by
 induction b generalizing d with
 |nil=>rfl
 |cons x b h=>simp only[OV,cW];exact h _
def zc (f:Nat->au)(d:Int)(x y:Nat × Nat):da f (da f d x) y=da f (da f d y) x:=by
 unfold da;by_cases b:(f x.1).L=3/\60<=x.2;{by_cases g:(f y.1).L=3/\60<=y.2;{simp only[b.1,b.2,g.1,g.2,TX];(repeat' split)<;>omega};{have e:∀Z9:Prop,¬ ((f y.1).L=3/\60<=y.2/\Z9):=λZ9 h=>g ⟨h.1,h.2.1⟩;rw[eI (e _),eI (e _)]}};{have e:∀Z9:Prop,¬ ((f x.1).L=3/\60<=x.2/\Z9):=λZ9 h=>b ⟨h.1,h.2.1⟩;rw[eI (e _),eI (e _)]}
def wV (f:Nat->au)(d:Int)(x:Nat × Nat)(b:List (Nat × Nat)):cW f (da f d x) b=da f (cW f d b) x:=by
 induction b generalizing d with
 |nil=>rfl
 |cons y ys g =>simp only[cW];rw[zc,g]
def TyAt (w:E)(g:Nat)(e:ZK):Prop:=∃b,w.heap[g]?=Q (N b e (0,0))
structure Kpt (H M:Nat)(W W':E):Prop where
 size:A (z W)<=A (z W')
 keep:∀k e,TyAt W k e->e≠3->k≠H->k≠M->W'.heap[k]?=W.heap[k]?
def Kpt.k {H M:Nat}{Z8 B C:E}(h:Kpt H M Z8 B)(k:Kpt H M B C):Kpt H M Z8 C:=
 ⟨nX h.size k.size,λi e hi f h1 h2=>by
  have b:=h.keep i e hi f h1 h2;obtain⟨c,g⟩:=hi
  exact(k.keep i e ⟨c,b.k g⟩ f h1 h2).k b⟩
def Kpt.l {H M:Nat}{W b:E}(h:Below (A (z W)) W b):Kpt H M W b:=
 ⟨h.size,λk e g _ _ _=>by obtain⟨c,f⟩:=g;exact h.p k (CV.1 f).1⟩
def Kpt.setCell {H M j:Nat}(W:E)(g:Nat)(hg:g=H\/g=M)(v:ZB):Kpt H M W (ZU W (T g j Z) v):=
 ⟨by simp,λk _ _ _ h1 h2=>qh _ _ _ _ (by show k≠g;omega)⟩
structure SLs (w0 W:E)(n1 b off n j_ H M:Nat)(s:Nat->Bool)(ov:ZB)(ord:List Nat)(dp:Int):Prop where
 c0:ZX W (T H 0 Z)=Q (Y (Q (T b off Z)) n j_)
 c1:ZX W (T H 1 Z)=Q (Y (Q (T M 0 Z)) n n)
 c2:ZX W (T H 2 Z)=Q ov/\ZY W (T H 2 Z)=ZA
 c3:ZX W (T H 3 Z)=Q (J I dp)/\ZY W (T H 3 Z)=ZA
 row:∀q,q<n->ZX W (T M q Z)=Q (ZF (s q))/\ZY W (T M q Z)=ZA
 ord:ZZ W n1 3 1 ov (ZV ord) (ord.map λq:Nat=>Value.int I (q:Int))
 low:Below (A (z w0)) w0 W
 hH:A (z w0)<=H/\H<n1
 hM:A (z w0)<=M/\M<n1
 ne:H≠M
 hz:n1<=A (z W)
def SLs.blocks {i W f:E}{n1 b off n j_ H M:Nat}{s:Nat->Bool}{l j:ZB}{ord g:List Nat}{t:Int}(h:SLs i W n1 b off n j_ H M s l ord t)(hz:A (z W)<=A (z f))(r:f.heap[H]?=W.heap[H]?)(p:f.heap[M]?=W.heap[M]?)(x:Below (A (z i)) i f)(y:j=l)(u:ZZ f n1 3 1 l (ZV g) (g.map λq:Nat=>Value.int I (q:Int))):SLs i f n1 b off n j_ H M s j g t:=by subst y;have c:∀o,ZX f (T H o Z)=ZX W (T H o Z):=λo=>cq (a:=(T H o Z)) r;have Z9:∀o,ZY f (T H o Z)=ZY W (T H o Z):=λo=>NF (a:=(T H o Z)) r;exact⟨(c 0).k h.c0,(c 1).k h.c1,⟨(c 2).k h.c2.1,(Z9 2).k h.c2.2⟩,⟨(c 3).k h.c3.1,(Z9 3).k h.c3.2⟩,λq m=>⟨(cq (a:=(T M q Z)) p).k (h.row q m).1,(NF (a:=(T M q Z)) p).k (h.row q m).2⟩,u,x,h.hH,h.hM,h.ne,nX h.hz hz⟩
def SLs.aa {g W f:E}{n1 b off n j_ H M:Nat}{s:Nat->Bool}{i:ZB}{ord:List Nat}{j:Int}(h:SLs g W n1 b off n j_ H M s i ord j)(hb:Below (A (z W)) W f):SLs g f n1 b off n j_ H M s i ord j:=
 h.blocks hb.size (hb.p H (by have:=h.hH;have:=h.hz;omega)) (hb.p M (by have:=h.hM;have:=h.hz;omega)) (h.low.k (hb.P h.low.size)) rfl (J_ h.ord hb ly)
def pd {w:E}{b f n R j:Nat}{e:ZK}{v:ZB}{g:List ZB}(h:ZZ w b e f v n g)(hR:R<b)(u:ZB):(ZU w (T R j Z) u).ownsRow b e f v n g:=by
 refine h.kept (row:=Q R) ⟨rfl,rfl,rfl,by simp[World.setCell],λk _ i=>qh _ _ _ _ (by simpa using i)⟩ ?_;cases hv:v.ownBlock with
 |none=>exact .inl rfl
 |some k=>exact .inr λl=>by have:=(h.lt k hv).1;cases l;omega
def SLs.mark {g W:E}{n1 b off n j_ H M p:Nat}{s:Nat->Bool}{i:ZB}{ord:List Nat}{j:Int}(h:SLs g W n1 b off n j_ H M s i ord j)(hp:p<n):SLs g (ZU W (T M p Z) (ZF ZH)) n1 b off n j_ H M (put s p) i ord j:=by
 have c:∀o,ZX (ZU W (T M p Z) (ZF ZH)) (T H o Z)=ZX W (T H o Z):=λo=>sq _ _ _ _ (by first|(simp;done)|(simp;exact λe=>absurd e.c h.ne)|(simp;exact λe=>absurd e h.ne)|(simp;omega));refine⟨(c 0).k h.c0,(c 1).k h.c1,⟨(c 2).k h.c2.1,by simpa using h.c2.2⟩,⟨(c 3).k h.c3.1,by simpa using h.c3.2⟩,λq f=>⟨?_,by simpa using(h.row q f).2⟩,pd h.ord h.hM.2 _,h.low.setCell h.hM.1 _,h.hH,h.hM,h.ne,by simpa using h.hz⟩;by_cases e:q=p;{subst e;rw[BO _ _ _ (by rw[(h.row q f).1];rfl)];simp[put]};{rw[sq _ _ _ _ (by first|(simp;done)|(simp;exact λe=>absurd e.c h.ne)|(simp;exact λe=>absurd e h.ne)|(simp;omega)),(h.row q f).1];simp[put,e]}
def SLs.deep {g W:E}{n1 b off n j_ H M:Nat}{s:Nat->Bool}{i:ZB}{ord:List Nat}{j:Int}(h:SLs g W n1 b off n j_ H M s i ord j)(v:Int):SLs g (ZU W (T H 3 Z) (J I v)) n1 b off n j_ H M s i ord v:=by have c:∀o,o≠3->ZX (ZU W (T H 3 Z) (J I v)) (T H o Z)=ZX W (T H o Z):=λo ho=>sq _ _ _ _ (by first|(simp;done)|(simp;exact λe=>absurd e.c h.ne)|(simp;exact λe=>absurd e h.ne)|(simp;omega));refine⟨(c 0 (by omega)).k h.c0,(c 1 (by omega)).k h.c1,⟨(c 2 (by omega)).k h.c2.1,by simpa using h.c2.2⟩,⟨BO _ _ _ (by rw[h.c3.1];rfl),by simpa using h.c3.2⟩,λq f=>⟨(sq _ _ _ _ (by first|(simp;done)|(simp;exact λe=>absurd e.c h.ne)|(simp;exact λe=>absurd e h.ne)|(simp;omega))).k (h.row q f).1,by simpa using(h.row q f).2⟩,pd h.ord h.hH.2 _,h.low.setCell h.hH.1 _,h.hH,h.hM,h.ne,by simpa using h.hz⟩
def Som (r:DR):Prop:=(∃g c,r.2.1=Y (Q (T g 0 Z)) r.1.h c)/\∃g c,r.2.2=Y (Q (T g 0 Z)) r.1.f c
def AV (a:O_)(n j_:Nat)(f:Nat->au)(w:E)(hn:(n:Int)<=1048576)(hf:SlDeed w a n f)(ZP:∀i,i<n->cX (f i)):Calls Tryz.prog 50 #[ZJ #[Y a n j_]] w λe w'=>∃a c R,e=ZI (ZJ #[Y a (ZV R) c])/\DRow w' (A (z w)+3) (Y a (ZV R) c) R/\R.map (·.1)=(List.range n).map f/\(∀r∈R,Som r)/\Below (A (z w)) w w':=by
 have HF:=ae hf;have HM:=ae ZP;clear hf ZP;obtain⟨At,hi,ph,n8,ur⟩:=NO lH;obtain⟨n9,hj,DQ,qr,mv⟩:=NO gC;obtain⟨W0,ZS⟩:∃W:E,ZW (ZW (ZW w (N #[Y a n j_] 25)) (N #[Y Z 0 0] 25)) (N #[Y Z 0 0] 25)=W:=⟨_,rfl⟩
 obtain⟨A0,-,-,-,-⟩:=nb3 ZS;have ZO:=ae ZS;clear ZS;have X0:=ae (IC w (Y a n j_) 25);go_enter Tryz.func50,Tryz.ntmps50;go_wp2;rw[ZO.i] at X0 ⊢;clear ZO;go_loopg [4] n (λg i wr=>∃(k:Nat) (vo:ZB) (R:List DR),k+g=n/\i=J I k/\Hid (CpB wr (A (z w)) (Y a n j_) vo)/\Hid (DRow wr (A (z w)+3) vo R)/\Hid (R.map (·.1)=(List.range k).map f)/\Hid (∀r∈R,Som r)/\Hid (Below (A (z w)) w wr));case atStart=>exact⟨0,_,[],by omega,rfl,X0.i,jK _ _,rfl,λr X=>absurd X (by simp),A0.i⟩
 case round =>
  clear X0 A0;obtain⟨k,vo,R,hk,rfl,V,D1,HE,ex,B1⟩:=hrel;have ca:=V.i.a;have ZN:=V.i.size;obtain⟨ao,co,rfl⟩:=lQ D1.i.u;by_cases fd:k<n
  ·have la:ZV R=k:=by have:=xT List.length HE.i;simpa using this
   have HRL:=ae la;have hR4:(ZV R:Int)<=1048576:=by omega
   clear la;obtain⟨b,off,rfl,H⟩:=(HF.i.aa B1.i ly).resolve_left (by omega);have hbl:=H.1;obtain⟨c0,c1,c2,c3,⟨b0,e0,c4,h4⟩,⟨b1,e1,c5,h5⟩⟩:=H.2 k fd;clear H;obtain⟨Bk,ro⟩:=HM.i k fd;have ld:Hid ((List.range (k+1)).map f=(List.range k).map f++[f k]):=by show _=_;rw[PH,ND];rfl
   generalize f k=x at c0 c1 c2 c3 c4 c5 h4 h5 Bk ro ld;obtain⟨W2,G⟩:∃W:E,ZW wr (N #[U x.e,J I x.L,J I x.M,U x.H,Y b0 x.h e0,Y b1 x.f e1] 62)=W:=⟨_,rfl⟩
   obtain⟨D2,-,-⟩:=nb1 G;have D:=ae G;clear G;have S2:=ae (jG wr (U x.e) (J I x.L) (J I x.M) (U x.H) (Y b0 x.h e0) (Y b1 x.f e1) 62);have H4:=ae (h4.aa D2.i ly);have H5:=ae h5;have hz2':A (z wr)+1=A (z W2):=by rw[<-D.i];simp
   have ZL:=S2.i.c4.1;clear h4 h5;go_wp2_with fail;rw[D.i] at S2 ZL ⊢;clear D;clear ca c0 c1 c2 c3 c4 c5 ZL;refine(jf b0 x.h e0 x.q _ (by omega) H4.i).P ?_;rintro e w3⟨Z9,Z8,rfl,P,M⟩;have D3:=ae (D2.i.k (M.P (by omega)));have S3:=ae (S2.i.aa M (by omega));have hg0:=(cV P).1;obtain⟨ZL,y4⟩:=S3.i.c4;have y:=ae (S3.i.set4 (Y (Q (T Z9 0 Z)) x.h Z8));have ZR:=ae (D3.i.setCell (p:=(T (A (z wr)) 4 Z)) ly (Y (Q (T Z9 0 Z)) x.h Z8));have ZM:=ae (aH (R:=A (z wr)) (j:=4) (aE P (show (A (z wr))+1<=A (z W2) by omega)) (by omega) (Y (Q (T Z9 0 Z)) x.h Z8));have DE:A (z W2)<=A (z (ZU w3 (T (A (z wr)) 4 Z) (Y (Q (T Z9 0 Z)) x.h Z8))):=by simpa using M.size
   have s5:=y.i.c5.1;clear P M;go_upto_region 7 with fail;generalize World.setCell w3 _ _=l at y ZR ZM DE s5 ⊢;clear ZL y4 S3 D3;go_cut [] (λwx=>∃s t,Hid (DBox wx (A (z wr)) (U x.e) (J I x.L) (J I x.M) (U x.H) (Y (Q (T Z9 0 Z)) x.h Z8) (Y (Q (T s 0 Z)) x.f t))/\Hid (Below (A (z wr)) wr wx)/\Hid (wx.ownsRow (A (z wr)+1) 102 3 (Y (Q (T Z9 0 Z)) x.h Z8) x.h (bZ x.q x.h))/\Hid (wx.ownsRow (A (z wr)+1) 65 4 (Y (Q (T s 0 Z)) x.f t) x.f (cy x.m x.f)));case first =>
    have sm:=y.i.lt;cases b1 with
    |none =>
     have L:x.f=0:=by
      rcases H5.i with h|⟨_,_,h,_⟩
      {exact h};{cases h}
     have ho:cy x.m x.f=[]:=by rw[L];rfl
     have aq:=ae L;have th:=ae ho;rw[L] at s5 y;have K:A (z (ZU l (T (A (z wr)) 5 Z) (Y (Q (T (A (z l)) 0 Z)) 0 0)))=A (z l):=by simp
     have OM:=OU (base:=A (z wr)+1) (e:=65) (size:=4) (ZU l (T (A (z wr)) 5 Z) (Y (Q (T (A (z l)) 0 Z)) 0 0)) #[] 0 (by rw[K];omega) (by unfold maxLen;omega) rfl;rw[K] at OM;have O5:=ae OM;have A6:=ae ((a8 (A (z l)) (ZU l (T (A (z wr)) 5 Z) (Y (Q (T (A (z l)) 0 Z)) 0 0))).alloc (by rw[K];exact p7 _) (N #[] 65));have S5:=ae ((y.i.set5 (Y (Q (T (A (z l)) 0 Z)) 0 0)).aa A6.i sm);have D5:=ae ((ZR.i.setCell (p:=(T (A (z wr)) 5 Z)) ly (Y (Q (T (A (z l)) 0 Z)) 0 0)).k (A6.i.P ZR.i.size));have P5:=ae (J_ (aH (R:=A (z wr)) (j:=5) ZM.i (by omega) (Y (Q (T (A (z l)) 0 Z)) 0 0)) A6.i (by rw[K];exact p7 _));have f5:=y.i.c5.2;clear OM ho L;go_wp2;go_meet;exact⟨A (z l),0,(by show DBox _ _ _ _ _ _ _ _;rw[aq.i];exact S5.i),D5.i,P5.i,(by show World.ownsRow _ _ _ _ _ _ _;rw[th.i,aq.i];exact O5.i)⟩
    |some ad =>
     have A5:=ae ((BS l).alloc ly (N #[] 65));have R5:Hid (∀j u,(cy x.m x.f)[j]?=Q u->(ZW l (N #[] 65)).cell? (ad.add j)=Q u):=by
      rcases((H5.i.aa ZR.i ly).aa A5.i ly) with h|⟨bb,oo,h,X⟩
      {intro j u hu;rw[h] at hu;simp[cy] at hu};{obtain rfl:=IH h;exact DY X}
     have s5':=(A5.i.O (p:=(T (A (z wr)) 5 Z)) y.i.lt).k s5;go_wp2_with (at_builtin;refine DN _ rfl (.tmp 23) (.tmp 25) 60 rfl (A (z l)) 65 At (ZJ #[U ⟨#[]⟩,ZF ZA,ZF ZA,J I 0]) 4 32 SV hi ph n8 ur rfl (by decide) (Y (Q (T (A (z l)) 0 Z)) 0 0) 0 [] (by simp[Act.eval]) (OU l #[] 0 ly (by unfold maxLen;omega) rfl) ad x.f e1 (cy x.m x.f) (by simp[Act.eval]) (iT x.m x.f) R5.i (AU x.m x.f) (by unfold maxLen;omega) (by omega) (by simp) ?_;intro v5 w5 m q C;simp only[IT,NR] at m;obtain⟨s,t,rfl⟩:∃g c,v5=Y (Q (T g 0 Z)) x.f c:=(by rcases m.2 with⟨rfl,_⟩|⟨g,c,cur,rfl,_⟩;(have:=C.1 rfl;simp at this);exact⟨g,c,rfl⟩);have B5:=ae (bg A5.i q (by simp) (λj e=>by simp[Value.ownBlock] at e;omega));have O5:=ae m;obtain⟨t5,u5⟩:=(y.i.aa B5.i y.i.lt).c5;clear m q C);have B:=ae ((y.i.aa B5.i y.i.lt).set5 (Y (Q (T s 0 Z)) x.f t));have ZT:=ae ((ZR.i.k (B5.i.P ZR.i.size)).setCell (p:=(T (A (z wr)) 5 Z)) ly (Y (Q (T s 0 Z)) x.f t));have O:=ae (aH (R:=A (z wr)) (j:=5) (J_ ZM.i B5.i ly) (by omega) (Y (Q (T s 0 Z)) x.f t));have S:=ae (aH (R:=A (z wr)) (j:=5) (aE O5.i (show (A (z wr))+1<=A (z l) by omega)) (by omega) (Y (Q (T s 0 Z)) x.f t));go_meet;exact⟨_,_,B.i,ZT.i,O.i,S.i⟩
   case rest =>
   clear y ZR ZM s5 H5;obtain⟨s,t,B,ZT,O,S⟩:=hcut;revert B ZT O S;generalize wc=ZQ;intro B ZT O S;have G6:Hid (DSub ZQ (A (z wr)) (x,Y (Q (T Z9 0 Z)) x.h Z8,Y (Q (T s 0 Z)) x.f t)):=⟨aE O.i (by omega),aE S.i (by omega)⟩
   have X6:=ae (V.i.aa ZT.i ZN);obtain⟨q0,_⟩:=B.i.c0;obtain⟨q1,_⟩:=B.i.c1;obtain⟨q2,_⟩:=B.i.c2;obtain⟨q3,_⟩:=B.i.c3;obtain⟨q4,_⟩:=B.i.c4;obtain⟨q5,_⟩:=B.i.c5;obtain⟨m0,m1⟩:=X6.i.o;have A7:=ae ((BS ZQ).alloc ly (N #[U x.e,J I x.L,J I x.M,U x.H,Y (Q (T Z9 0 Z)) x.h Z8,Y (Q (T s 0 Z)) x.f t] 62));have D7:=ae (ZT.i.k (A7.i.P ZT.i.size));have R7:=ae (D1.i.aa D7.i ly);have G7:=ae (G6.i.aa A7.i ly);have bt:A (z w)+3<=A (z (ZW ZQ (N #[U x.e,J I x.L,J I x.M,U x.H,Y (Q (T Z9 0 Z)) x.h Z8,Y (Q (T s 0 Z)) x.f t] 62))):=nX ZN D7.i.size;go_wp2_with (at_builtin;refine DN _ rfl (.tmp 29) (.tmp 31) 23 rfl (A (z w)+3) 62 n9 (ZJ #[U ⟨#[]⟩,J I 0,J I 0,U ⟨#[]⟩,Y Z 0 0,Y Z 0 0]) 6 96 QB hj DQ qr mv rfl (by decide) (Y ao (ZV R) co) (ZV R) (R.flatMap ddV) (by simp[Act.eval]) R7.i.u (T (A (z ZQ)) 0 Z) 1 1 (ddV (x,Y (Q (T Z9 0 Z)) x.h Z8,Y (Q (T s 0 Z)) x.f t)) (by simp[Act.eval]) rfl (ID ZQ _ _ _ _ _ _ _) (by simp[ddV,Value.oneCell']) (by unfold maxLen;omega) (by omega) bt ?_;intro v' w8 m q C;obtain⟨gs,cs,rfl⟩:=dr m (by omega);have E8:=ae (bg (a8 (A (z w)+3) _) q bt (λj e=>(R7.i.u.lt j e).1));have M8:=ae (D1.i.more R7.i ZN G7.i m q);have X8:=ae ((X6.i.aa A7.i X6.i.size).aa E8.i ly);have B8:=ae ((B1.i.k (D7.i.P B1.i.size)).k (E8.i.P (by omega)));obtain⟨k0,k1⟩:=X8.i.o;clear m q C);have M9:=ae (M8.i.set (p:=(T (A (z w)+1+1) 0 Z)) (e:=0) (.inl (by show (A (z w))+1+1<A (z w)+3;omega)) (Y (Q (T gs 0 Z)) (ZV R+1) cs));go_roundg (n - 1 - k);case measure=>omega
   case rel =>refine⟨k+1,Y (Q (T gs 0 Z)) (ZV R+1) cs,R++[(x,Value.slice (Q (T Z9 0 Z)) x.h Z8,Value.slice (Q (T s 0 Z)) x.f t)],by omega,by go_num,X8.i.i _,M9.i,?_,λr X=>(p8.1 X).elim (ex.i r) (λh=>by rw[j4.1 h];exact⟨⟨_,_,rfl⟩,_,_,rfl⟩),B8.i.setCell (by show (A (z w))<=A (z w)+2;omega) _⟩;show _=_;rw[ld.i,ND,HE.i];rfl
  ·have e:k=n:=by omega
   subst e;obtain⟨r0,z0⟩:=V.i.r;obtain⟨o0,_⟩:=V.i.o;go_wp2;exact bp (v:=ZJ #[Y ao (ZV R) co]) (by simp[results,Tryz.results50,go_sem,r0]) rfl ⟨ao,co,R,rfl,D1.i.set (e:=0) (.inl (by show (A (z w))+1<A (z w)+3;omega)) _,HE.i,ex.i,B1.i.setCell (by show (A (z w))<=A (z w)+1;omega) _⟩
