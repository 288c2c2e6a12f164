import Derived.Test.YthkgkfehliinfaaGreatDoorGW
import Derived.Deep.LoopGhost
import Derived.Test.YthkgkfehliinfaaGreatDoorGF
import Derived.RangeFuncKeeps
import Derived.RangeFuncFrom
set_option linter.all false
set_option maxRecDepth 100000
set_option maxHeartbeats 8000000
open Go renaming Addr.mk->Q,Value.slice->Y,Value.string->U,Value.int->J,Value.bool->ZF,Value.agg->ZJ,Obj.cells->N,IntKind.i64->I,World->E,Value->ZB,TypeId->ZK,Ending.returned->ZI,World.heap->A,World.ownsRow->ZZ,World.alloc->ZW,World.cell?->ZX,World.frozen?->ZY,World.setCell->ZU
open Option renaming none->Z,some->T
open Bool renaming false->ZA,true->ZH
open Array renaming size->z
open List renaming length->ZV
namespace Go.Proofs.YthkgkfehliinfaaGreatDoor.Ca
open RowKit Vp
structure Upd (P:Nat->Prop)(w w':E):Prop where
 os:w'.os=w.os
 tape:w'.tape=w.tape
 output:w'.output=w.output
 size:z (A w)<=z (A w')
 p:∀k,k<z (A w)->¬ P k->w'.heap[k]?=w.heap[k]?
def Upd.refl (P:Nat->Prop)(w:E):Upd P w w:=⟨rfl,rfl,rfl,Nat.le_refl _,λ_ _ _=>rfl⟩
def Upd.k {P:Nat->Prop}{a b c:E}(h:Upd P a b)(k:Upd P b c):Upd P a c:=
 ⟨k.os.k h.os,k.tape.k h.tape,k.output.k h.output,Nat.le_trans h.size k.size,λi hi f=>(k.p i (Nat.lt_of_lt_of_le hi h.size) f).k (h.p i hi f)⟩
def Upd.P {P ZP:Nat->Prop}{a b:E}(h:Upd P a b)(f:∀k,P k->ZP k):Upd ZP a b:=
 ⟨h.os,h.tape,h.output,h.size,λi hi j=>h.p i hi (λg=>j (f i g))⟩
def Upd.setCell {P:Nat->Prop}(w:E){p:Addr}(b:P p.block)(v:ZB):Upd P w (w.setCell p v):=
 ⟨rfl,rfl,rfl,by simp[World.setCell],λk _ f=>Below.heap_setCell _ _ _ _ (λe=>f (e ▸ b))⟩
def Upd.putObj {P:Nat->Prop}(w:E){l:Nat}(b:P l)(o:Obj):Upd P w (w.putObj l o):=
 ⟨rfl,rfl,rfl,by simp,λk _ f=>World.putObj_heap_other (λe=>f (e ▸ b))⟩
def dO {n:Nat}(w:E){l:Nat}(hn:n<=l)(hl:l<z (A w))(o:Obj):Below n w (w.putObj l o):=
 (Below.refl n w).grown (grownBy_putObj' w l o) (by omega) (λk e=>by cases e;exact hn)
def DX {h:Type}(F:Fence)(n:Nat)(P:Program)(g:Nat)(r:Array ZB)(j:h->Array ZB)(p:h->Prop)(m:Nat)(S q:List h->Prop)(ZQ:Nat)(w:E):Prop:=
 ∀(l:Nat) (ZR f:List h->E->Prop) (W:E),Below (z (A w)) w W->(∀s Z9 B,ZR s Z9->Below (z (A W)) Z9 B->ZR s B)->(∀s Z9 B,f s Z9->Below (z (A W)) Z9 B->f s B) ->
  (∀pre x i,p x->ZR pre i->ZV pre<ZQ->z (A W)<=z (A i)->YieldAt F (n - 1) P l (j x) i λe b =>
   (e=ZI (ZF ZH)/\ZR (pre++[x]) b/\Upd (λk=>m<=k/\k<z (A W)) i b)\/(e=ZI (ZF ZA)/\f (pre++[x]) b)) ->
  ZR [] W ->
  CallsIn F n P g (#[.func (.yield l) #[] #[]]++r) W λe b=>(∃v,e=ZI v)/\((∃o,S o/\ZR o b)\/(∃pre,q pre/\f pre b))
def Jn {i:Type}(b f:Nat)(ZS:List i->E->Prop)(h:Code->List i->E->Prop)(g:List i)(W:E):Exit->Act->E->Prop
 |.normal,_,W'=>Upd (λk=>b<=k/\k<f) W W'/\ZS g W'
 |.ret,_,W'=>Upd (λk=>b<=k/\k<f) W W'/\h .ret g W'
 |.exit id,_,W'=>Upd (λk=>b<=k/\k<f) W W'/\h (.exit id) g W'
 |.goto t,_,W'=>Upd (λk=>b<=k/\k<f) W W'/\h (.goto t) g W'
 |.panic _,_,_=>False
 |.outgrown,_,_=>False
def jI {F:Fence}{n:Nat}{P:Program}{q:Type}{g:Operand}{ps:Array Tmp}{assign body:Code}{ZP:Exit->Act->E->Prop}{a:Act}{w:E}
  (ur:F.round=Z) (h1:1<=n) {gf:Nat} {lb:Array ZB} (hg:a.eval g=.func (.func gf) #[] lb) (DE:F.fn gf) (eg:∀args w,(callFunc gf args).run P w=.ok (.enter gf args) w)
  {Z8:q->Array ZB} {Ox:q->Prop} {base:Nat} {S Sp:List q->Prop} {ZQ:Nat} {ZL:E} (hbase:base<=z (A w)) (n8:DX F (n - 1) P gf lb Z8 Ox base S Sp ZQ ZL) (fd:Below (z (A ZL)) ZL w) (Fm:∀x,(Z8 x).size=ps.size)
  (ZS:List q->E->Prop) (R:Code->List q->E->Prop) (ZN:∀s Z9 B,ZS s Z9->Below (z (A w)) Z9 B->ZS s B) (G:∀c s Z9 B,R c s Z9->Below (z (A w)) Z9 B->R c s B) (h0:ZS [] w) (V:q->Act)
  (L:∀(l:Nat) (x:q) (W:E) (K:Act->E->Prop),K (V x) W ->
   assign.wpIn (F.inRound l) (n - 1 - 1) P (Exit.then K (λ_ _ _=>False)) { tmps:=(ps.zip (Z8 x)).foldl (λt (p,v)=>t.setIfInBounds p v) a.tmps,defers:=[] } W)
  (ex:∀(l:Nat) (pre:List q) (x:q) (W:E),Ox x->ZS pre W->ZV pre<ZQ->z (A w)<=z (A W)->body.wpIn (F.inRound l) (n - 1 - 1) P (Jn base (z (A w)) ZS R (pre++[x]) W) (V x) W)
  (bt:∀(D:Nat) (ZM:List q) (W:E),z (A w)<=D->S ZM->ZS ZM W->W.heap[D]?=T (.deferred (T []))->ZP .normal { a with defers:={ target:=.collected D,args:=#[] } :: a.defers } W)
  (aq:∀(D:Nat) (c:Code) (pre:List q) (W:E),z (A w)<=D->Sp pre->R c pre W->W.heap[D]?=T (.deferred (T []))->c.wpIn F n P ZP { a with defers:={ target:=.collected D,args:=#[] } :: a.defers } W) :
  (Code.rangeFunc g ps assign body).wpIn F n P ZP a w:=by
 refine wpIn_rangeFunc ?_;intro fn DQ;rw[ur];obtain⟨b,f⟩:∃b:LoopState->Option Code->Loop,b=λst pe=>{ state:=st,pending:=pe,fn,tmps:=a.tmps,params:=ps,assign,body,defers:=z (A w) }:=⟨_,rfl⟩
 obtain⟨m,ZT⟩:∃m,(w.alloc (.deferred (T []))).alloc (.loop (b .ready Z))=m:=⟨_,rfl⟩
 have hs1:z (A m)=z (A w)+2:=by rw[<-ZT];simp
 have ph:m.heap[z (A w)+1]?=T (.loop (b .ready Z)):=by rw[<-ZT];have:=World.alloc_heap_new (w.alloc (.deferred (T []))) (.loop (b .ready Z));rwa[World.size_alloc] at this
 have Fd:m.heap[z (A w)]?=T (.deferred (T [])):=by rw[<-ZT];exact(Below.heap_alloc _ _ _ (by simp)).k (World.alloc_heap_new w _)
 have ld:Below (z (A w)) w m:=by rw[<-ZT];exact((Below.refl _ w).alloc ly _).alloc (by simp) _
 have Fk:ZS [] m:=ZN _ _ _ h0 ld;have th:Below (z (A ZL)) ZL m:=fd.k (ld.P fd.size)
 refine⟨z (A w)+1,[{ target:=.collected (z (A w)),args:=#[] }],m,{ target:=.fn (.func gf) lb,args:=#[.func (.yield (z (A w)+1)) #[] #[]] },m,gf,
  #[.func (.yield (z (A w)+1)) #[] #[]]++lb,m,?_,?_,?_,?_,λ_=>h1,?_⟩
 {rw[<-ZT,f];exact run_enterLoop_outer _ _ _ _ _};{simp only[resolve,hg];simp[go_sem]};{intro f' la;simp[Target.leads] at la;subst la;exact DE};{simp[invoke,go_sem,eg]}
 ·refine(n8 (z (A w)+1)
   (λpre W=>ZS pre W/\W.heap[z (A w)+1]?=T (.loop (b .ready Z))/\W.heap[z (A w)]?=T (.deferred (T [])))
   (λpre W=>∃c,R c pre W/\W.heap[z (A w)+1]?=T (.loop (b .done (T c)))/\W.heap[z (A w)]?=T (.deferred (T [])))
   m th
   (λs Z9 B X H=>⟨ZN s Z9 B X.1 (H.P (by omega)),(H.p _ (by omega)).k X.2.1,(H.p _ (by omega)).k X.2.2⟩)
   (λs Z9 B X H=>by
    obtain⟨c,hc,u,C⟩:=X
    exact⟨c,G c s Z9 B hc (H.P (by omega)),(H.p _ (by omega)).k u,(H.p _ (by omega)).k C⟩)
   ?_ ⟨Fk,ph,Fd⟩).P ?_
  ·-- one round
   rintro pre x W ro⟨hi,u,C⟩ n9 _;have O:z (A w)+1<z (A W):=(Array.getElem?_eq_some_iff.1 u).1;have hy:=run_yield (P:=P) (args:=Z8 x) u (by rw[f];exact Fm x);rw[f] at hy;refine⟨fn,_,assign,body,hy,roundIn_of_wpIn DQ (L _ x W _ ⟨_,run_beginRound u (by rw[f]),?_⟩)⟩;have At:(W.putObj (z (A w)+1) (.loop { b .ready Z with state:=.busy })).heap[z (A w)+1]?=T (.loop { b .ready Z with state:=.busy }):=World.putObj_heap_same O;have sm:(W.putObj (z (A w)+1) (.loop { b .ready Z with state:=.busy })).heap[z (A w)]?=T (.deferred (T [])):=(World.putObj_heap_other (by omega)).k C;have qr:Upd (λk=>base<=k/\k<z (A m)) W (W.putObj (z (A w)+1) (.loop { b .ready Z with state:=.busy })):=Upd.putObj _ ⟨by omega,by omega⟩ _;refine wpIn_mono (ex _ pre x _ ro (ZN _ _ _ hi (dO _ (by omega) O _)) n9 (by simp;omega)) ?_;have fin:∀(jump:Option Code) (j:E),Upd (λk=>base<=k/\k<z (A w)) (W.putObj (z (A w)+1) (.loop { b .ready Z with state:=.busy })) j ->
     (Instr.endRound (z (A w)+1) jump).run P j=.ok (ZF jump.isNone) (j.putObj (z (A w)+1) (.loop (b (if jump.isNone then .ready else .done) jump))) /\
     Below (z (A w)) j (j.putObj (z (A w)+1) (.loop (b (if jump.isNone then .ready else .done) jump))) /\
     (j.putObj (z (A w)+1) (.loop (b (if jump.isNone then .ready else .done) jump))).heap[z (A w)+1]?=T (.loop (b (if jump.isNone then .ready else .done) jump)) /\
     (j.putObj (z (A w)+1) (.loop (b (if jump.isNone then .ready else .done) jump))).heap[z (A w)]?=T (.deferred (T [])):=λjump j h=>by
    have mv:=(h.p _ (by simpa using O) (by omega)).k At;have i:=(h.p _ (by simp;omega) (by omega)).k sm;have ZO:=(Array.getElem?_eq_some_iff.1 mv).1;have:=run_endRound (P:=P) jump mv;rw[f] at this ⊢;exact⟨this,dO _ (by omega) ZO _,World.putObj_heap_same ZO,(World.putObj_heap_other (by omega)).k i⟩
   rintro e a3 j M;cases e with
   |normal =>obtain⟨h,o⟩:=M;obtain⟨ZR,r,y,i⟩:=fin Z j h;exact⟨_,_,ZR,.inl ⟨rfl,⟨ZN _ _ _ o r,y,i⟩,(qr.k (h.P (λk C=>⟨C.1,by omega⟩))).k (Upd.putObj _ ⟨by omega,by omega⟩ _)⟩⟩
   |ret =>obtain⟨h,o⟩:=M;obtain⟨ZR,r,y,i⟩:=fin (T .ret) j h;exact⟨_,_,ZR,.inr ⟨rfl,.ret,G _ _ _ _ o r,y,i⟩⟩
   |exit id =>obtain⟨h,o⟩:=M;obtain⟨ZR,r,y,i⟩:=fin (T (.exit id)) j h;exact⟨_,_,ZR,.inr ⟨rfl,.exit id,G _ _ _ _ o r,y,i⟩⟩
   |goto t =>obtain⟨h,o⟩:=M;obtain⟨ZR,r,y,i⟩:=fin (T (.goto t)) j h;exact⟨_,_,ZR,.inr ⟨rfl,.goto t,G _ _ _ _ o r,y,i⟩⟩
   |panic ch=>exact M.elim
   |outgrown=>exact M.elim
  {rintro e W2⟨⟨v,rfl⟩,(⟨ZM,hS,hi,u,C⟩|⟨pre,Bk,c,hi,u,C⟩)⟩;{exact⟨Z,_,by have:=run_endLoop (P:=P) u (by rw[f];simp);rw[f] at this;exact this,bt _ ZM _ ly hS (ZN _ _ _ hi (dO _ (by omega) (Array.getElem?_eq_some_iff.1 u).1 _)) ((World.putObj_heap_other (by omega)).k C)⟩};{exact⟨T c,_,by have:=run_endLoop (P:=P) u (by rw[f];simp);rw[f] at this;exact this,aq _ c pre _ ly Bk (G _ _ _ _ hi (dO _ (by omega) (Array.getElem?_eq_some_iff.1 u).1 _)) ((World.putObj_heap_other (by omega)).k C)⟩}}
def OfTy (w:E)(k:Nat)(e:ZK):Prop:=∃c Z8,w.heap[k]?=T (N c e Z8)
def OfTy.eq {w b:E}{k:Nat}{e:ZK}(h:OfTy w k e)(hb:b.heap[k]?=w.heap[k]?):OfTy b k e:=by obtain⟨c,Z8,h⟩:=h;exact⟨c,Z8,hb.k h⟩
def OfTy.ne {w:E}{k:Nat}{e f:ZK}(h:OfTy w k e)(hn:f≠e):¬ OfTy w k f:=by
 obtain⟨c,Z8,h⟩:=h;rintro⟨c',z',b⟩;rw[h] at b;cases b
 exact hn rfl
def OfTy.set {w:E}{k:Nat}{e:ZK}(h:OfTy w k e)(p:Addr)(v:ZB):OfTy (w.setCell p v) k e:=by
 obtain⟨c,Z8,h⟩:=h;by_cases b:p.block=k;{subst b;have hlt:=(Array.getElem?_eq_some_iff.1 h).1;have he:=(Array.getElem?_eq_some_iff.1 h).2;exact⟨if p.spot.isSome=ZH then c else c.setIfInBounds p.off v,Z8,by simp[World.setCell,Array.getElem?_modify,h]⟩};{exact⟨c,Z8,(Below.heap_setCell _ _ _ _ (λe=>b e.c)).k h⟩}
def OfTy.new (w:E)(c:Array ZB)(e:ZK):OfTy (w.alloc (N c e)) (z (A w)) e:=⟨c,_,World.alloc_heap_new w _⟩
structure Upd2 (ZO:ZK)(base n₀:Nat)(w w':E):Prop where
 os:w'.os=w.os
 tape:w'.tape=w.tape
 output:w'.output=w.output
 size:z (A w)<=z (A w')
 p:∀k,k<z (A w)->(k<base\/(n₀<=k/\¬ OfTy w k ZO))->w'.heap[k]?=w.heap[k]?
def Upd.two {b f:Nat}{w g:E}(h:Upd (λk=>b<=k/\k<f) w g)(ZO:ZK):Upd2 ZO b f w g:=⟨h.os,h.tape,h.output,h.size,λk i hp=>h.p k i (by omega)⟩
def Upd2.aa {ZO:ZK}{f g:Nat}{a b:E}(h:Upd2 ZO f g a b)(hb:f<=z (A a)):Below f a b:=⟨h.os,h.tape,h.output,h.size,λk i=>h.p k (by omega) (.inl i)⟩
structure Itr (B:ZK)(n:Nat)(w w':E):Prop where
 low:Below n w w'
 keep:∀(k:Nat) (c:Array ZB) (e:ZK) (Z8:Nat × Nat),w.heap[k]?=T (Obj.cells c e Z8)->e≠B->w'.heap[k]?=w.heap[k]?
def Itr.q {B:ZK}{n m:Nat}{w b:E}(h:Below m w b)(f:z (A w)<=m)(hn:n<=m):Itr B n w b:=
 ⟨h.P hn,λk _ _ _ g _=>h.p k (Nat.lt_of_lt_of_le (Array.getElem?_eq_some_iff.1 g).1 f)⟩
def Itr.setCell {B:ZK}{n:Nat}(w:E){p:Addr}(hn:n<=p.block)(f:OfTy w p.block B)(v:ZB):Itr B n w (w.setCell p v):=
 ⟨(Below.refl n w).setCell hn v,λk c e Z8 g i=>Below.heap_setCell _ _ _ _ (λh=>by
  obtain⟨c',z',b⟩:=f;rw[<-h,g] at b;cases b
  exact i rfl)⟩
def SeqT2 {f:Type}(ZO B:ZK)(F:Fence)(n:Nat)(P:Program)(g:Nat)(r:Array ZB)(j:f->Array ZB)(p:List f->f->Prop)(m:Nat)(S q:List f->Prop)(w:E):Prop:=
 ∀(l:Nat) (ZR h:List f->E->Prop) (W:E),Below (z (A w)) w W->(∀s Z9 C,ZR s Z9->Itr B (z (A W)) Z9 C->ZR s C)->(∀s Z9 C,h s Z9->Itr B (z (A W)) Z9 C->h s C) ->
  (∀pre x i,p pre x->ZR pre i->z (A W)<=z (A i)->YieldAt F (n - 1) P l (j x) i λe b =>
   (e=ZI (ZF ZH)/\ZR (pre++[x]) b/\Upd2 ZO m (z (A W)) i b)\/(e=ZI (ZF ZA)/\h (pre++[x]) b)) ->
  ZR [] W ->
  CallsIn F n P g (#[.func (.yield l) #[] #[]]++r) W λe b=>(∃v,e=ZI v)/\((∃o,S o/\ZR o b)\/(∃pre,q pre/\h pre b))
def YieldAt.mono2 {F:Fence}{m:Nat}{P:Program}{l:Nat}{args:Array ZB}{W:E}{R f:Ending->E->Prop}(h:YieldAt F m P l args W R)(hR:∀e b,R e b->f e b):YieldAt F m P l args W f:=by obtain⟨fn,tmps,assign,body,g,i⟩:=h;exact⟨fn,tmps,assign,body,g,i.P hR⟩
def SeqT2.plain {f:Type}{ZO B:ZK}{F:Fence}{n:Nat}{P:Program}{g:Nat}{r:Array ZB}{i:f->Array ZB}{u:List f->f->Prop}{m:f->Prop}{j:Nat}{S q:List f->Prop}{ZQ:Nat}{w:E}(h:SeqT2 ZO B F n P g r i u j S q w)(t:∀pre x,u pre x->m x/\(ZV pre)<ZQ):DX F n P g r i m j S q ZQ w:=
 λl ZR y W D K p ZT Z8=>h l ZR y W D (λs Z9 C o hi=>K s Z9 C o hi.low) (λs Z9 C o hi=>p s Z9 C o hi.low) (λpre x H h1 h2 G=>YieldAt.mono2 (ZT pre x H (t pre x h1).1 h2 (t pre x h1).2 G) λ_ _ ZS=>ZS.imp (λ⟨a,b,c⟩=>⟨a,b,c.two ZO⟩) id) Z8
end Go.Proofs.YthkgkfehliinfaaGreatDoor.Ca
namespace Go.Proofs.YthkgkfehliinfaaGreatDoor.Vp
open RowKit Ca
def du (x:Link):List ZB:=[U x.e,ZF x.ask,ZF x.has,J I x.G]
def cy (f:Nat->Link)(n:Nat):List ZB:=((List.range n).map f).flatMap du
def iT (f:Nat->Link)(n:Nat):(cy f n).length=n*4:=by rw[cy,fA du 4 (λ_=>rfl)];simp
def jJ (f:Nat->Link){n i:Nat}(hi:i<n)(j:Nat)(b:j<4):(cy f n)[i*4+j]?=(du (f i))[j]? :=
 cT du 4 (λ_=>rfl) _ i j b (f i) (by simp[hi])
def AU (f:Nat->Link)(n:Nat):∀u∈cy f n,u.oneCell'=ZH:=by intro u b;simp only[cy,QR,du] at b;obtain⟨x,_,g⟩:=b;simp at g;rcases g with rfl|rfl|rfl|rfl<;>simp[Value.oneCell']
def DY {w:E}{b off n:Nat}{f:Nat->Link}(h:RowLink w b off n f):∀j u,(cy f n)[j]?=T u->w.cell? (((Q b off Z):Addr).add j)=T u:=by
 intro j u g;have hl:j<n*4:=by have:=(j5.1 g).1;rwa[iT] at this
 have e:j=j / 4*4+j % 4:=by omega
 have hi:j / 4<n:=by omega
 obtain⟨l,h1,h2,i⟩:=h.2 (j / 4) hi;have m:j % 4<4:=UJ _ (by omega);rw[e,jJ f hi (j % 4) m] at g;have o:((Q b off Z):Addr).add j=(Q b (off+j) Z):=addr_add _ _ _;rw[o];rcases(show j % 4=0\/j % 4=1\/j % 4=2\/j % 4=3 by omega) with q|q|q|q;all_goals rw[q] at g;simp[du] at g;subst g
 {rw[show off+j=off+j / 4*4 by omega];exact l};{rw[show off+j=off+j / 4*4+1 by omega];exact h1};{rw[show off+j=off+j / 4*4+2 by omega];exact h2};{rw[show off+j=off+j / 4*4+3 by omega];exact i}
def ew {w m:E}{b size n:Nat}{e:ZK}{v:ZB}{j:List ZB}(h:ZZ w b e size v n j)(hb:∀k,v.ownBlock=T k->OfTy w k e->m.heap[k]?=w.heap[k]?):ZZ m b e size v n j:=by
 refine⟨h.1,?_⟩;rcases h.2 with hn|⟨g,j_,i,rfl,l,f,rest⟩
 {exact .inl hn};{exact .inr ⟨g,j_,i,rfl,l,(hb g rfl ⟨i,_,f⟩).k f,rest⟩}
def fS {w:E}{f size n:Nat}{e:ZK}{v:ZB}{l:List ZB}(h:ZZ w f e size v n l):∀k,v.ownBlock=T k->OfTy w k e:=by
 intro k b;rcases h.2 with⟨rfl,_⟩|⟨g,j_,i,rfl,_,j,_⟩
 {simp[Value.ownBlock] at b};{simp[Value.ownBlock] at b;subst b;exact⟨i,_,j⟩}
def dr {w:E}{b size n:Nat}{e:ZK}{v:ZB}{f:List ZB}(h:ZZ w b e size v n f)(hn:0<n):∃g j_,v=Y (T (Q g 0 Z)) n j_:=by
 rcases h.2 with⟨_,h2⟩|⟨g,c,cur,h1,_⟩
 {omega};{exact⟨g,c,h1⟩}
def lQ {w:E}{b size n:Nat}{e:ZK}{v:ZB}{f:List ZB}(h:ZZ w b e size v n f):∃a j_,v=Y a n j_:=by
 rcases h.2 with⟨h1,h2⟩|⟨g,c,cur,h1,_⟩
 {exact⟨Z,0,by rw[h1,h2]⟩};{exact⟨_,_,h1⟩}
abbrev DR:=au × ZB × ZB
def ddV (r:DR):List ZB:=[U r.1.e,J I r.1.m,J I r.1.M,U r.1.H,r.2.1,r.2.2]
structure DSub (w:E)(base:Nat)(r:DR):Prop where
 u:ZZ w base 124 3 r.2.1 r.1.h (bZ r.1.u r.1.h)
 az:ZZ w base 74 4 r.2.2 r.1.f (cy r.1.l r.1.f)
def Apt (a b:ZB):Prop:=a.ownBlock=Z\/a.ownBlock≠b.ownBlock
structure DRow (w:E)(base:Nat)(v:ZB)(R:List DR):Prop where
 y:ZZ w base 58 6 v (ZV R) (R.flatMap ddV)
 sub:∀r∈R,DSub w base r
 up:R.Pairwise λa b=>Apt a.2.1 b.2.1/\Apt a.2.2 b.2.2
def DSub.ad {w w':E}{b:Nat}{r:DR}(h:DSub w b r)(hb:∀k,OfTy w k 124\/OfTy w k 74->b<=k->w'.heap[k]?=w.heap[k]?):DSub w' b r:=
 ⟨ew h.u λk g f=>hb k (.inl f) (h.u.lt k g).1,ew h.az λk g f=>hb k (.inr f) (h.az.lt k g).1⟩
def DSub.aa {w g:E}{b B:Nat}{r:DR}(h:DSub w b r)(hb:Below B w g)(f:z (A w)<=B):DSub g b r:=⟨J_ h.u hb f,J_ h.az hb f⟩
def DSub.P {w:E}{b base':Nat}{r:DR}(h:DSub w b r)(hb:base'<=b):DSub w base' r:=⟨aE h.u hb,aE h.az hb⟩
def DRow.ad {w w':E}{b:Nat}{v:ZB}{R:List DR}(h:DRow w b v R)(hb:∀k,OfTy w k 124\/OfTy w k 74\/OfTy w k 58->b<=k->w'.heap[k]?=w.heap[k]?):DRow w' b v R:=
 ⟨ew h.y λk f g=>hb k (.inr (.inr g)) (h.y.lt k f).1,λr i=>(h.sub r i).ad λk f=>hb k (f.imp id .inl),h.up⟩
def DRow.aa {w f:E}{b B:Nat}{v:ZB}{R:List DR}(h:DRow w b v R)(hb:Below B w f)(g:z (A w)<=B):DRow f b v R:=
 ⟨J_ h.y hb g,λr i=>(h.sub r i).aa hb g,h.up⟩
def DRow.P {w:E}{b base':Nat}{v:ZB}{R:List DR}(h:DRow w b v R)(hb:base'<=b):DRow w base' v R:=⟨aE h.y hb,λr f=>(h.sub r f).P hb,h.up⟩
def DRow.set {w:E}{f:Nat}{v:ZB}{R:List DR}(h:DRow w f v R){p:Addr}{e:ZK}(i:p.block<f\/(OfTy w p.block e/\e≠124/\e≠74/\e≠58))(u:ZB):DRow (w.setCell p u) f v R:=
 h.ad λk b hb=>qh _ _ _ _ (λx=>by
  subst x;rcases i with i|⟨g,h1,h2,j⟩
  ·omega
  ·rcases b with b|b|b
   ·exact g.ne (Ne.symm h1) b
   ·exact g.ne (Ne.symm h2) b
   ·exact g.ne (Ne.symm j) b)
def jK (w:E)(b:Nat):DRow w b (Y Z 0 0) []:=⟨CP _ _ _ _,λr f=>absurd f (by simp),List.Pairwise.nil⟩
def DRow.more {w g l:E}{i:Nat}{v q:ZB}{R:List DR}{r:DR}(h:DRow w i v R)(h1:DRow g i v R)(m:i<=z (A w))(o:DSub g (z (A w)) r)
  (p:ZZ l i 58 6 q (ZV R+1) (R.flatMap ddV++ddV r)) (u:g.grownBy l v.ownBlock):DRow l i q (R++[r]):=by
 have y:∀k,OfTy g k 124\/OfTy g k 74->T k≠v.ownBlock:=λk f e=>by
  have t:=fS h1.y k e.c;rcases f with f|f;{exact t.ne (by decide) f};{exact t.ne (by decide) f}
 have s:∀k,OfTy g k 124\/OfTy g k 74->k<z (A g):=λk f=>by rcases f with⟨c,Z8,f⟩|⟨c,Z8,f⟩<;>exact(CV.1 f).1
 have keep:∀k,OfTy g k 124\/OfTy g k 74->l.heap[k]?=g.heap[k]?:=λk f=>u.p k (s k f) (y k f);refine⟨by simpa using p,λx j=>?_,?_⟩;{rcases p8.1 j with j|j;{exact(h1.sub x j).ad λk f _=>keep k f};{simp at j;subst j;exact(o.ad λk f _=>keep k f).P m}}
 ·rw[PD];refine⟨h.up,by simp,λa B b n=>?_⟩;simp at n;subst n;have Z9:=h.sub a B;refine⟨?_,?_⟩
  ·cases f:a.2.1.ownBlock with
   |none=>exact .inl f
   |some k =>refine .inr λe=>?_;have h1:=(Z9.u.lt k f).2;have h2:=(o.u.lt k (e ▸ f)).1;omega
  ·cases f:a.2.2.ownBlock with
   |none=>exact .inl f
   |some k =>refine .inr λe=>?_;have h1:=(Z9.az.lt k f).2;have h2:=(o.az.lt k (e ▸ f)).1;omega
def Ea {w:E}{b n g j_:Nat}{f:Nat->Link}(h:ZZ w b 74 4 (Y (T (Q g 0 Z)) n j_) n (cy f n)):RowLink w g 0 n f:=by
 refine⟨(cV h).2,λi hi=>?_⟩;have c:∀j,j<4->∀u,(du (f i))[j]?=T u->ZX w (Q g (0+i*4+j) Z)=T u:=λj m u l=>by have:=(bA h (j:=i*4+j) (u:=u) (by rw[jJ f hi j m];exact l)).1;rwa[show 0+i*4+j=i*4+j by omega]
 exact⟨c 0 (by omega) _ rfl,c 1 (by omega) _ rfl,c 2 (by omega) _ rfl,c 3 (by omega) _ rfl⟩
def DSub.ins {w:E}{f:Nat}{r:DR}(h:DSub w f r):∃a j_,r.2.1=Y a r.1.h j_/\SlIns w a r.1.h r.1.u:=by
 obtain⟨a,j_,e⟩:=lQ h.u;refine⟨a,j_,e,?_⟩;by_cases hz:r.1.h=0;{exact .inl hz}
 ·obtain⟨g,c,b⟩:=dr h.u (by omega);have i:=h.u;rw[b] at i;rw[e] at b;cases b
  exact .inr ⟨g,0,rfl,(kY i).1⟩
def DSub.l {w:E}{f:Nat}{r:DR}(h:DSub w f r):∃a j_,r.2.2=Y a r.1.f j_/\SlLink w a r.1.f r.1.l:=by
 obtain⟨a,j_,e⟩:=lQ h.az;refine⟨a,j_,e,?_⟩;by_cases hz:r.1.f=0;{exact .inl hz}
 ·obtain⟨g,c,b⟩:=dr h.az (by omega);have i:=h.az;rw[b] at i;rw[e] at b;cases b
  exact .inr ⟨g,0,rfl,Ea i⟩
def dG {R:List DR}{i:Nat}(hi:i<ZV R):∃r,R[i]?=T r/\r∈R:=⟨R[i],gq hi,gz hi⟩
def iM {R:List DR}{i:Nat}{r:DR}(h:R[i]?=T r):dF (R.map (·.1)) i=r.1:=by unfold dF;rw[CL,L8,h];rfl
def iU {w:E}{b g j_:Nat}{R:List DR}(h:ZZ w b 58 6 (Y (T (Q g 0 Z)) (ZV R) j_) (ZV R) (R.flatMap ddV)){i:Nat}{r:DR}(m:R[i]?=T r)(j:Nat)(l:j<6){u:ZB}(f:(ddV r)[j]?=T u):ZX w (Q g (i*6+j) Z)=T u/\ZY w (Q g (i*6+j) Z)=ZA:=
 bA h (j:=i*6+j) (u:=u) (by rw[cT ddV 6 (λ_=>rfl) R i j l r m];exact f)
def DRow.bd {w:E}{b c:Nat}{a:O_}{R:List DR}(h:DRow w b (Y a (ZV R) c) R):SlDeed w a (ZV R) (dF (R.map (·.1))):=by
 by_cases hz:ZV R=0;{exact .inl hz}
 ·obtain⟨g,c',e⟩:=dr h.y (by omega);cases e
  refine .inr ⟨g,0,rfl,(cV h.y).2,λi hi=>?_⟩;obtain⟨r,f,l⟩:=dG hi;rw[iM f];have c:∀j,j<6->∀u,(ddV r)[j]?=T u->ZX w (Q g (0+i*6+j) Z)=T u:=λj p u m=>by rw[show 0+i*6+j=i*6+j by omega];exact(iU h.y f j p m).1
  obtain⟨s,c4,t,n⟩:=(h.sub r l).ins;obtain⟨q,c5,o,x⟩:=(h.sub r l).l;exact⟨c 0 (by omega) _ rfl,c 1 (by omega) _ rfl,c 2 (by omega) _ rfl,c 3 (by omega) _ rfl,⟨s,c4,by rw[<-t];exact c 4 (by omega) _ rfl,n⟩,⟨q,c5,by rw[<-o];exact c 5 (by omega) _ rfl,x⟩⟩
def rAt (R:List DR)(i:Nat):DR:=R.getD i (fG,Y Z 0 0,Y Z 0 0)
def ra (R:List DR)(i:Nat):Nat:=(rAt R i).1.h
def rl (R:List DR)(i:Nat):Nat:=(rAt R i).1.f
structure CpB (W:E)(h:Nat)(v vo:ZB):Prop where
 size:h+3<=z (A W)
 a:ZX W (Q h 0 Z)=T v
 r:ZX W (Q (h+1) 0 Z)=T (Y Z 0 0)/\ZY W (Q (h+1) 0 Z)=ZA
 o:ZX W (Q (h+2) 0 Z)=T vo/\ZY W (Q (h+2) 0 Z)=ZA
def ut (W:E)(v:ZB)(t:ZK):ZX (ZW W (N #[v] t)) (Q (z (A W)) 0 Z)=T v/\ZY (ZW W (N #[v] t)) (Q (z (A W)) 0 Z)=ZA:=by constructor<;>simp
def IC (w:E)(v:ZB)(b:ZK):CpB (ZW (ZW (ZW w (N #[v] b)) (N #[Y Z 0 0] b)) (N #[Y Z 0 0] b)) (z (A w)) v (Y Z 0 0):=by
 obtain⟨f,m⟩:∃f,ZW w (N #[v] b)=f:=⟨_,rfl⟩
 obtain⟨g,l⟩:∃g,ZW f (N #[Y Z 0 0] b)=g:=⟨_,rfl⟩
 obtain⟨i,j⟩:∃i,ZW g (N #[Y Z 0 0] b)=i:=⟨_,rfl⟩
 rw[m,l,j];have z1:z (A f)=z (A w)+1:=by rw[<-m];simp
 have z2:z (A g)=z (A w)+2:=by rw[<-l];simp;omega
 have z3:z (A i)=z (A w)+3:=by rw[<-j];simp;omega
 have h:Below (z (A g)) g i:=by rw[<-j];exact br.alloc ly _
 have q:Below (z (A f)) f i:=(by rw[<-l];exact br.alloc ly _:Below (z (A f)) f g).k (h.P (by omega));have n1:=ut w v b;have n:=ut f (Y Z 0 0) b;have o:=ut g (Y Z 0 0) b;rw[m] at n1;rw[l,z1] at n;rw[j,z2] at o;exact⟨by omega,(q.O (p:=(Q (z (A w)) 0 Z)) (by show (z (A w))<_;omega)).k n1.1,⟨(h.O (p:=(Q (z (A w)+1) 0 Z)) (by show (z (A w))+1<_;omega)).k n.1,(h.frozen (p:=(Q (z (A w)+1) 0 Z)) (by show (z (A w))+1<_;omega)).k n.2⟩,o⟩
def CpB.aa {W g:E}{h B:Nat}{v j:ZB}(b:CpB W h v j)(hb:Below B W g)(hB:h+3<=B):CpB g h v j:=by have c:∀k o,k<B->ZX g (Q k o Z)=ZX W (Q k o Z):=λk o i=>hb.O (p:=(Q k o Z)) i;have f:∀k o,k<B->ZY g (Q k o Z)=ZY W (Q k o Z):=λk o i=>hb.frozen (p:=(Q k o Z)) i;exact⟨nX b.size hb.size,(c _ _ (by omega)).k b.a,⟨(c _ _ (by omega)).k b.r.1,(f _ _ (by omega)).k b.r.2⟩,⟨(c _ _ (by omega)).k b.o.1,(f _ _ (by omega)).k b.o.2⟩⟩
def CpB.i {W:E}{h:Nat}{v f:ZB}(b:CpB W h v f)(u:ZB):CpB (ZU W (Q (h+2) 0 Z) u) h v u:=by have c:∀k o,k≠h+2->ZX (ZU W (Q (h+2) 0 Z) u) (Q k o Z)=ZX W (Q k o Z):=λk o g=>K_ _ _ _ _ (by simpa using λe=>g e.c);exact⟨by simpa using b.size,(c _ _ (by omega)).k b.a,⟨(c _ _ (by omega)).k b.r.1,by simpa using b.r.2⟩,⟨BO _ _ _ (by rw[b.o.1];rfl),by simpa using b.o.2⟩⟩
def ID (w:E)(f g i l m n:ZB)(t:ZK):∀j u,[f,g,i,l,m,n][j]?=T u->(ZW w (N #[f,g,i,l,m,n] t)).cell? (((Q (z (A w)) 0 Z):Addr).add j)=T u:=by
 intro j u b;have hj:j<6:=by have:=(j5.1 b).1;simpa using this
 have h:=jG w f g i l m n t;rw[addr_add,IT];rcases(show j=0\/j=1\/j=2\/j=3\/j=4\/j=5 by omega) with rfl|rfl|rfl|rfl|rfl|rfl;all_goals simp only[List.getElem?_cons_zero,VH,ND] at b;subst b
 {exact h.c0.1};{exact h.c1.1};{exact h.c2.1};{exact h.c3.1};{exact h.c4.1};{exact h.c5.1}
def da (f:Nat->au)(d:Int)(x:Nat × Nat):Int:=if (f x.1).m=3/\60<=x.2/\(d<0\/(x.1:Int)<d) then (x.1:Int) else d
def cW (f:Nat->au)(d:Int):List (Nat × Nat)->Int
 |[]=>d
 |x::xs=>cW f (da f d x) xs
def mV (f:Nat->au)(d:Int)(b g:List (Nat × Nat)):cW f d (b++g)=cW f (cW f d b) g:=by
 induction b generalizing d with
 |nil=>rfl
 |cons x b h=>simp only[PC,cW];exact h _
def zc (f:Nat->au)(d:Int)(x y:Nat × Nat):da f (da f d x) y=da f (da f d y) x:=by
 unfold da;by_cases g:(f x.1).m=3/\60<=x.2;{by_cases b:(f y.1).m=3/\60<=y.2;{simp only[g.1,g.2,b.1,b.2,TX];(repeat' split)<;>omega};{have e:∀Z8:Prop,¬ ((f y.1).m=3/\60<=y.2/\Z8):=λZ8 h=>b ⟨h.1,h.2.1⟩;rw[eI (e _),eI (e _)]}};{have e:∀Z8:Prop,¬ ((f x.1).m=3/\60<=x.2/\Z8):=λZ8 h=>g ⟨h.1,h.2.1⟩;rw[eI (e _),eI (e _)]}
def wV (f:Nat->au)(d:Int)(x:Nat × Nat)(b:List (Nat × Nat)):cW f (da f d x) b=da f (cW f d b) x:=by
 induction b generalizing d with
 |nil=>rfl
 |cons y ys g =>simp only[cW];rw[zc,g]
def TyAt (w:E)(g:Nat)(e:ZK):Prop:=∃b,w.heap[g]?=T (N b e (0,0))
structure Kpt (H M:Nat)(W W':E):Prop where
 size:z (A W)<=z (A W')
 keep:∀k e,TyAt W k e->e≠3->k≠H->k≠M->W'.heap[k]?=W.heap[k]?
def Kpt.k {H M:Nat}{Z9 B C:E}(h:Kpt H M Z9 B)(k:Kpt H M B C):Kpt H M Z9 C:=
 ⟨nX h.size k.size,λi e hi f h1 h2=>by
  have b:=h.keep i e hi f h1 h2;obtain⟨c,g⟩:=hi
  exact(k.keep i e ⟨c,b.k g⟩ f h1 h2).k b⟩
def Kpt.q {H M:Nat}{W b:E}(h:Below (z (A W)) W b):Kpt H M W b:=
 ⟨h.size,λk e f _ _ _=>by obtain⟨c,g⟩:=f;exact h.p k (CV.1 g).1⟩
def Kpt.setCell {H M j:Nat}(W:E)(g:Nat)(hg:g=H\/g=M)(v:ZB):Kpt H M W (ZU W (Q g j Z) v):=
 ⟨by simp,λk _ _ _ h1 h2=>qh _ _ _ _ (by show k≠g;omega)⟩
structure SLs (w0 W:E)(n1 b off n j_ H M:Nat)(s:Nat->Bool)(ov:ZB)(ord:List Nat)(dp:Int):Prop where
 c0:ZX W (Q H 0 Z)=T (Y (T (Q b off Z)) n j_)
 c1:ZX W (Q H 1 Z)=T (Y (T (Q M 0 Z)) n n)
 c2:ZX W (Q H 2 Z)=T ov/\ZY W (Q H 2 Z)=ZA
 c3:ZX W (Q H 3 Z)=T (J I dp)/\ZY W (Q H 3 Z)=ZA
 row:∀q,q<n->ZX W (Q M q Z)=T (ZF (s q))/\ZY W (Q M q Z)=ZA
 ord:ZZ W n1 3 1 ov (ZV ord) (ord.map λq:Nat=>Value.int I (q:Int))
 low:Below (z (A w0)) w0 W
 hH:z (A w0)<=H/\H<n1
 hM:z (A w0)<=M/\M<n1
 ne:H≠M
 hz:n1<=z (A W)
def SLs.blocks {i W f:E}{n1 b off n j_ H M:Nat}{s:Nat->Bool}{l j:ZB}{ord g:List Nat}{r:Int}(h:SLs i W n1 b off n j_ H M s l ord r)(hz:z (A W)<=z (A f))(m:f.heap[H]?=W.heap[H]?)(t:f.heap[M]?=W.heap[M]?)(u:Below (z (A i)) i f)(x:j=l)(y:ZZ f n1 3 1 l (ZV g) (g.map λq:Nat=>Value.int I (q:Int))):SLs i f n1 b off n j_ H M s j g r:=by subst x;have c:∀o,ZX f (Q H o Z)=ZX W (Q H o Z):=λo=>cq (a:=(Q H o Z)) m;have Z8:∀o,ZY f (Q H o Z)=ZY W (Q H o Z):=λo=>NG (a:=(Q H o Z)) m;exact⟨(c 0).k h.c0,(c 1).k h.c1,⟨(c 2).k h.c2.1,(Z8 2).k h.c2.2⟩,⟨(c 3).k h.c3.1,(Z8 3).k h.c3.2⟩,λq p=>⟨(cq (a:=(Q M q Z)) t).k (h.row q p).1,(NG (a:=(Q M q Z)) t).k (h.row q p).2⟩,y,u,h.hH,h.hM,h.ne,nX h.hz hz⟩
def SLs.aa {i W f:E}{n1 b off n j_ H M:Nat}{s:Nat->Bool}{j:ZB}{ord:List Nat}{g:Int}(h:SLs i W n1 b off n j_ H M s j ord g)(hb:Below (z (A W)) W f):SLs i f n1 b off n j_ H M s j ord g:=
 h.blocks hb.size (hb.p H (by have:=h.hH;have:=h.hz;omega)) (hb.p M (by have:=h.hM;have:=h.hz;omega)) (h.low.k (hb.P h.low.size)) rfl (J_ h.ord hb ly)
def pd {w:E}{b f n R j:Nat}{e:ZK}{v:ZB}{g:List ZB}(h:ZZ w b e f v n g)(hR:R<b)(u:ZB):(ZU w (Q R j Z) u).ownsRow b e f v n g:=by
 refine h.kept (row:=T R) ⟨rfl,rfl,rfl,by simp[World.setCell],λk _ i=>qh _ _ _ _ (by simpa using i)⟩ ?_;cases hv:v.ownBlock with
 |none=>exact .inl rfl
 |some k=>exact .inr λl=>by have:=(h.lt k hv).1;cases l;omega
def SLs.mark {i W:E}{n1 b off n j_ H M p:Nat}{s:Nat->Bool}{j:ZB}{ord:List Nat}{g:Int}(h:SLs i W n1 b off n j_ H M s j ord g)(hp:p<n):SLs i (ZU W (Q M p Z) (ZF ZH)) n1 b off n j_ H M (put s p) j ord g:=by
 have c:∀o,ZX (ZU W (Q M p Z) (ZF ZH)) (Q H o Z)=ZX W (Q H o Z):=λo=>sq _ _ _ _ (by first|(simp;done)|(simp;exact λe=>absurd e.c h.ne)|(simp;exact λe=>absurd e h.ne)|(simp;omega));refine⟨(c 0).k h.c0,(c 1).k h.c1,⟨(c 2).k h.c2.1,by simpa using h.c2.2⟩,⟨(c 3).k h.c3.1,by simpa using h.c3.2⟩,λq f=>⟨?_,by simpa using(h.row q f).2⟩,pd h.ord h.hM.2 _,h.low.setCell h.hM.1 _,h.hH,h.hM,h.ne,by simpa using h.hz⟩;by_cases e:q=p;{subst e;rw[BO _ _ _ (by rw[(h.row q f).1];rfl)];simp[put]};{rw[sq _ _ _ _ (by first|(simp;done)|(simp;exact λe=>absurd e.c h.ne)|(simp;exact λe=>absurd e h.ne)|(simp;omega)),(h.row q f).1];simp[put,e]}
def SLs.deep {g W:E}{n1 b off n j_ H M:Nat}{s:Nat->Bool}{i:ZB}{ord:List Nat}{j:Int}(h:SLs g W n1 b off n j_ H M s i ord j)(v:Int):SLs g (ZU W (Q H 3 Z) (J I v)) n1 b off n j_ H M s i ord v:=by have c:∀o,o≠3->ZX (ZU W (Q H 3 Z) (J I v)) (Q H o Z)=ZX W (Q H o Z):=λo ho=>sq _ _ _ _ (by first|(simp;done)|(simp;exact λe=>absurd e.c h.ne)|(simp;exact λe=>absurd e h.ne)|(simp;omega));refine⟨(c 0 (by omega)).k h.c0,(c 1 (by omega)).k h.c1,⟨(c 2 (by omega)).k h.c2.1,by simpa using h.c2.2⟩,⟨BO _ _ _ (by rw[h.c3.1];rfl),by simpa using h.c3.2⟩,λq f=>⟨(sq _ _ _ _ (by first|(simp;done)|(simp;exact λe=>absurd e.c h.ne)|(simp;exact λe=>absurd e h.ne)|(simp;omega))).k (h.row q f).1,by simpa using(h.row q f).2⟩,pd h.ord h.hH.2 _,h.low.setCell h.hH.1 _,h.hH,h.hM,h.ne,by simpa using h.hz⟩
def Som (r:DR):Prop:=(∃g c,r.2.1=Y (T (Q g 0 Z)) r.1.h c)/\∃g c,r.2.2=Y (T (Q g 0 Z)) r.1.f c
def AV (a:O_)(n j_:Nat)(f:Nat->au)(w:E)(hn:(n:Int)<=1048576)(hf:SlDeed w a n f)(X:∀i,i<n->cX (f i)):Calls Tryz.prog 60 #[ZJ #[Y a n j_]] w λe w'=>∃a c R,e=ZI (ZJ #[Y a (ZV R) c])/\DRow w' (z (A w)+3) (Y a (ZV R) c) R/\R.map (·.1)=(List.range n).map f/\(∀r∈R,Som r)/\Below (z (A w)) w w':=by
 have HF:=ae hf;have HM:=ae X;clear hf X;obtain⟨At,hi,ur,n9,n8⟩:=NP lH;obtain⟨DQ,hj,DE,Bk,ro⟩:=NP gC;obtain⟨W0,ZS⟩:∃W:E,ZW (ZW (ZW w (N #[Y a n j_] 25)) (N #[Y Z 0 0] 25)) (N #[Y Z 0 0] 25)=W:=⟨_,rfl⟩
 obtain⟨A0,-,-,-,-⟩:=nb3 ZS;have S:=ae ZS;clear ZS;have X0:=ae (IC w (Y a n j_) 25);go_enter Tryz.func60,Tryz.ntmps60;go_wp2;rw[S.i] at X0 ⊢;clear S;go_loopg [4] n (λg i wr=>∃(k:Nat) (vo:ZB) (R:List DR),k+g=n/\i=J I k/\Hid (CpB wr (z (A w)) (Y a n j_) vo)/\Hid (DRow wr (z (A w)+3) vo R)/\Hid (R.map (·.1)=(List.range k).map f)/\Hid (∀r∈R,Som r)/\Hid (Below (z (A w)) w wr));case atStart=>exact⟨0,_,[],by omega,rfl,X0.i,jK _ _,rfl,λr ZP=>absurd ZP (by simp),A0.i⟩
 case round =>
  clear X0 A0;obtain⟨k,vo,R,hk,rfl,ZO,D1,HE,bt,B1⟩:=hrel;have ca:=ZO.i.a;have ZN:=ZO.i.size;obtain⟨ao,co,rfl⟩:=lQ D1.i.y;by_cases aq:k<n
  ·have ex:ZV R=k:=by have:=xT List.length HE.i;simpa using this
   have HRL:=ae ex;have hR4:(ZV R:Int)<=1048576:=by omega
   clear ex;obtain⟨b,off,rfl,G⟩:=(HF.i.aa B1.i ly).resolve_left (by omega);have hbl:=G.1;obtain⟨c0,c1,c2,c3,⟨b0,e0,c4,h4⟩,⟨b1,e1,c5,h5⟩⟩:=G.2 k aq;clear G;obtain⟨mv,sm⟩:=HM.i k aq;have fd:Hid ((List.range (k+1)).map f=(List.range k).map f++[f k]):=by show _=_;rw[PI,NE];rfl
   generalize f k=x at c0 c1 c2 c3 c4 c5 h4 h5 mv sm fd;obtain⟨W2,H⟩:∃W:E,ZW wr (N #[U x.e,J I x.m,J I x.M,U x.H,Y b0 x.h e0,Y b1 x.f e1] 58)=W:=⟨_,rfl⟩
   obtain⟨D2,-,-⟩:=nb1 H;have ZT:=ae H;clear H;have S2:=ae (jG wr (U x.e) (J I x.m) (J I x.M) (U x.H) (Y b0 x.h e0) (Y b1 x.f e1) 58);have H4:=ae (h4.aa D2.i ly);have H5:=ae h5;have hz2':z (A wr)+1=z (A W2):=by rw[<-ZT.i];simp
   have ZL:=S2.i.c4.1;clear h4 h5;go_wp2_with fail;rw[ZT.i] at S2 ZL ⊢;clear ZT;clear ca c0 c1 c2 c3 c4 c5 ZL;refine(jf b0 x.h e0 x.u _ (by omega) H4.i).P ?_;rintro e w3⟨Z9,Z8,rfl,O,L⟩;have D3:=ae (D2.i.k (L.P (by omega)));have S3:=ae (S2.i.aa L (by omega));have hg0:=(cV O).1;obtain⟨ZL,y4⟩:=S3.i.c4;have y:=ae (S3.i.set4 (Y (T (Q Z9 0 Z)) x.h Z8));have ZR:=ae (D3.i.setCell (p:=(Q (z (A wr)) 4 Z)) ly (Y (T (Q Z9 0 Z)) x.h Z8));have O4:=ae (aH (R:=z (A wr)) (j:=4) (aE O (show (z (A wr))+1<=z (A W2) by omega)) (by omega) (Y (T (Q Z9 0 Z)) x.h Z8));have ph:z (A W2)<=z (A (ZU w3 (Q (z (A wr)) 4 Z) (Y (T (Q Z9 0 Z)) x.h Z8))):=by simpa using L.size
   have s5:=y.i.c5.1;clear O L;go_upto_region 7 with fail;generalize World.setCell w3 _ _=l at y ZR O4 ph s5 ⊢;clear ZL y4 S3 D3;go_cut [] (λwx=>∃t s,Hid (DBox wx (z (A wr)) (U x.e) (J I x.m) (J I x.M) (U x.H) (Y (T (Q Z9 0 Z)) x.h Z8) (Y (T (Q t 0 Z)) x.f s))/\Hid (Below (z (A wr)) wr wx)/\Hid (wx.ownsRow (z (A wr)+1) 124 3 (Y (T (Q Z9 0 Z)) x.h Z8) x.h (bZ x.u x.h))/\Hid (wx.ownsRow (z (A wr)+1) 74 4 (Y (T (Q t 0 Z)) x.f s) x.f (cy x.l x.f)));case first =>
    have qr:=y.i.lt;cases b1 with
    |none =>
     have M:x.f=0:=by
      rcases H5.i with h|⟨_,_,h,_⟩
      {exact h};{cases h}
     have ho:cy x.l x.f=[]:=by rw[M];rfl
     have ld:=ae M;have th:=ae ho;rw[M] at s5 y;have K:z (A (ZU l (Q (z (A wr)) 5 Z) (Y (T (Q (z (A l)) 0 Z)) 0 0)))=z (A l):=by simp
     have OM:=OV (base:=z (A wr)+1) (e:=74) (size:=4) (ZU l (Q (z (A wr)) 5 Z) (Y (T (Q (z (A l)) 0 Z)) 0 0)) #[] 0 (by rw[K];omega) (by unfold maxLen;omega) rfl;rw[K] at OM;have O5:=ae OM;have A6:=ae ((a8 (z (A l)) (ZU l (Q (z (A wr)) 5 Z) (Y (T (Q (z (A l)) 0 Z)) 0 0))).alloc (by rw[K];exact p7 _) (N #[] 74));have S5:=ae ((y.i.set5 (Y (T (Q (z (A l)) 0 Z)) 0 0)).aa A6.i qr);have D5:=ae ((ZR.i.setCell (p:=(Q (z (A wr)) 5 Z)) ly (Y (T (Q (z (A l)) 0 Z)) 0 0)).k (A6.i.P ZR.i.size));have P5:=ae (J_ (aH (R:=z (A wr)) (j:=5) O4.i (by omega) (Y (T (Q (z (A l)) 0 Z)) 0 0)) A6.i (by rw[K];exact p7 _));have f5:=y.i.c5.2;clear OM ho M;go_wp2;go_meet;exact⟨z (A l),0,(by show DBox _ _ _ _ _ _ _ _;rw[ld.i];exact S5.i),D5.i,P5.i,(by show World.ownsRow _ _ _ _ _ _ _;rw[th.i,ld.i];exact O5.i)⟩
    |some ad =>
     have A5:=ae ((BS l).alloc ly (N #[] 74));have R5:Hid (∀j u,(cy x.l x.f)[j]?=T u->(ZW l (N #[] 74)).cell? (ad.add j)=T u):=by
      rcases((H5.i.aa ZR.i ly).aa A5.i ly) with h|⟨bb,oo,h,ZP⟩
      {intro j u hu;rw[h] at hu;simp[cy] at hu};{obtain rfl:=IH h;exact DY ZP}
     have s5':=(A5.i.O (p:=(Q (z (A wr)) 5 Z)) y.i.lt).k s5;go_wp2_with (at_builtin;refine DN _ rfl (.tmp 23) (.tmp 25) 56 rfl (z (A l)) 74 At (ZJ #[U ⟨#[]⟩,ZF ZA,ZF ZA,J I 0]) 4 32 SU hi ur n9 n8 rfl (by decide) (Y (T (Q (z (A l)) 0 Z)) 0 0) 0 [] (by simp[Act.eval]) (OV l #[] 0 ly (by unfold maxLen;omega) rfl) ad x.f e1 (cy x.l x.f) (by simp[Act.eval]) (iT x.l x.f) R5.i (AU x.l x.f) (by unfold maxLen;omega) (by omega) (by simp) ?_;intro v5 w5 m q C;simp only[IT,NS] at m;obtain⟨t,s,rfl⟩:∃g c,v5=Y (T (Q g 0 Z)) x.f c:=(by rcases m.2 with⟨rfl,_⟩|⟨g,c,cur,rfl,_⟩;(have:=C.1 rfl;simp at this);exact⟨g,c,rfl⟩);have ZM:=ae (bg A5.i q (by simp) (λj e=>by simp[Value.ownBlock] at e;omega));have O5:=ae m;obtain⟨t5,u5⟩:=(y.i.aa ZM.i y.i.lt).c5;clear m q C);have B:=ae ((y.i.aa ZM.i y.i.lt).set5 (Y (T (Q t 0 Z)) x.f s));have D:=ae ((ZR.i.k (ZM.i.P ZR.i.size)).setCell (p:=(Q (z (A wr)) 5 Z)) ly (Y (T (Q t 0 Z)) x.f s));have P:=ae (aH (R:=z (A wr)) (j:=5) (J_ O4.i ZM.i ly) (by omega) (Y (T (Q t 0 Z)) x.f s));have V:=ae (aH (R:=z (A wr)) (j:=5) (aE O5.i (show (z (A wr))+1<=z (A l) by omega)) (by omega) (Y (T (Q t 0 Z)) x.f s));go_meet;exact⟨_,_,B.i,D.i,P.i,V.i⟩
   case rest =>
   clear y ZR O4 s5 H5;obtain⟨t,s,B,D,P,V⟩:=hcut;revert B D P V;generalize wc=ZQ;intro B D P V;have G6:Hid (DSub ZQ (z (A wr)) (x,Y (T (Q Z9 0 Z)) x.h Z8,Y (T (Q t 0 Z)) x.f s)):=⟨aE P.i (by omega),aE V.i (by omega)⟩
   have X6:=ae (ZO.i.aa D.i ZN);obtain⟨q0,_⟩:=B.i.c0;obtain⟨q1,_⟩:=B.i.c1;obtain⟨q2,_⟩:=B.i.c2;obtain⟨q3,_⟩:=B.i.c3;obtain⟨q4,_⟩:=B.i.c4;obtain⟨q5,_⟩:=B.i.c5;obtain⟨m0,m1⟩:=X6.i.o;have A7:=ae ((BS ZQ).alloc ly (N #[U x.e,J I x.m,J I x.M,U x.H,Y (T (Q Z9 0 Z)) x.h Z8,Y (T (Q t 0 Z)) x.f s] 58));have D7:=ae (D.i.k (A7.i.P D.i.size));have R7:=ae (D1.i.aa D7.i ly);have G7:=ae (G6.i.aa A7.i ly);have la:z (A w)+3<=z (A (ZW ZQ (N #[U x.e,J I x.m,J I x.M,U x.H,Y (T (Q Z9 0 Z)) x.h Z8,Y (T (Q t 0 Z)) x.f s] 58))):=nX ZN D7.i.size;go_wp2_with (at_builtin;refine DN _ rfl (.tmp 29) (.tmp 31) 23 rfl (z (A w)+3) 58 DQ (ZJ #[U ⟨#[]⟩,J I 0,J I 0,U ⟨#[]⟩,Y Z 0 0,Y Z 0 0]) 6 96 QC hj DE Bk ro rfl (by decide) (Y ao (ZV R) co) (ZV R) (R.flatMap ddV) (by simp[Act.eval]) R7.i.y (Q (z (A ZQ)) 0 Z) 1 1 (ddV (x,Y (T (Q Z9 0 Z)) x.h Z8,Y (T (Q t 0 Z)) x.f s)) (by simp[Act.eval]) rfl (ID ZQ _ _ _ _ _ _ _) (by simp[ddV,Value.oneCell']) (by unfold maxLen;omega) (by omega) la ?_;intro v' w8 m q C;obtain⟨gs,cs,rfl⟩:=dr m (by omega);have E8:=ae (bg (a8 (z (A w)+3) _) q la (λj e=>(R7.i.y.lt j e).1));have M8:=ae (D1.i.more R7.i ZN G7.i m q);have X8:=ae ((X6.i.aa A7.i X6.i.size).aa E8.i ly);have B8:=ae ((B1.i.k (D7.i.P B1.i.size)).k (E8.i.P (by omega)));obtain⟨k0,k1⟩:=X8.i.o;clear m q C);have M9:=ae (M8.i.set (p:=(Q (z (A w)+1+1) 0 Z)) (e:=0) (.inl (by show (z (A w))+1+1<z (A w)+3;omega)) (Y (T (Q gs 0 Z)) (ZV R+1) cs));go_roundg (n - 1 - k);case measure=>omega
   case rel =>refine⟨k+1,Y (T (Q gs 0 Z)) (ZV R+1) cs,R++[(x,Value.slice (T (Q Z9 0 Z)) x.h Z8,Value.slice (T (Q t 0 Z)) x.f s)],by omega,by go_num,X8.i.i _,M9.i,?_,λr ZP=>(p8.1 ZP).elim (bt.i r) (λh=>by rw[j4.1 h];exact⟨⟨_,_,rfl⟩,_,_,rfl⟩),B8.i.setCell (by show (z (A w))<=z (A w)+2;omega) _⟩;show _=_;rw[fd.i,NE,HE.i];rfl
  ·have e:k=n:=by omega
   subst e;obtain⟨r0,z0⟩:=ZO.i.r;obtain⟨o0,_⟩:=ZO.i.o;go_wp2;exact bp (v:=ZJ #[Y ao (ZV R) co]) (by simp[results,Tryz.results60,go_sem,r0]) rfl ⟨ao,co,R,rfl,D1.i.set (e:=0) (.inl (by show (z (A w))+1<z (A w)+3;omega)) _,HE.i,bt.i,B1.i.setCell (by show (z (A w))<=z (A w)+1;omega) _⟩
