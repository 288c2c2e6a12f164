import Derived.Test.YtpmnbjkjpnclaaaGreatDoorKG
import Derived.Test.YtpmnbjkjpnclaaaGreatDoorMA
import Derived.Test.YtpmnbjkjpnclaaaGreatDoorLL
set_option maxRecDepth 1000000
set_option maxHeartbeats 8000000
set_option linter.unusedSimpArgs false
open Go renaming Addr.mk->N,Value.slice->Y,Value.string->U,Value.int->Q,Value.bool->ZC,Value.agg->ZG,Obj.cells->J,IntKind.i64->I,World->M,Value->ZB,TypeId->ZH,Ending.returned->ZD,World.heap->z,World.cell?->A,Proofs.Tryz.prog->Pg
open Option renaming none->Z,some->T
open Bool renaming false->ZA,true->ZF
open Array renaming size->B
namespace Go.Proofs.YtpmnbjkjpnclaaaGreatDoor.Vp
open Tryz RowKit
variable {nm sx:ByteArray}{b tg n g ZR m C hb:Nat}{w w':M}{t e:ZH}{f s0 s1 ZS v' md or:ZB}{X:Nat->Prop}{G:ByteArray->Nat}{made a:List Ent}{x:Ent}{S:Spc}{mm making:List ByteArray}{p:List Lk}{l i j:Array ZB}
theorem nA (w:M):(zeroValue 240).run Pg w=.ok (ZG #[Q I 0,.pointer Z]) w:=by kernel_rfl
theorem jf (made:List Ent)(nm:ByteArray):made.find? (λe=>e.e.toList == nm.toList)=aZ made nm:=rfl
theorem qq{e:Ent}(h:aZ made nm=T e):de G mm made nm.toList=T (ZG #[Q I 0,.pointer (T (N (G e.e) 0 Z))]):=by unfold de;rw[jf,h]
theorem gG (h:aZ made nm=Z):de G mm made nm.toList=(atL mm nm).map λ(i:Nat)=>ZG #[Q I (i:Int),.pointer Z]:=by unfold de;rw[jf,h];rfl
section
variable {w0:M}{S:Spc}{mb mp:Nat}{s0 s1 mk md:ZB}{mm making:List ByteArray}{made:List Ent}{G:ByteArray->Nat}{V:ByteArray->ZB}
theorem AU (w:M)(nm:ByteArray)(h:MI w0 S mb mp s0 s1 w mm making made G V mk md)(hn:nm.size<=60)(e:Ent)(b:aZ made nm=T e):Calls Pg 112 #[.pointer (T (N mb 0 Z)),U nm] w λr w'=>r=ZD (.pointer (T (N (G e.e) 0 Z)))/\Below (B (z w)) w w':=by
 have l:=ae (show(de G mm made nm.toList).getD (ZG #[Q I 0,.pointer Z])=ZG #[Q I 0,.pointer (T (N (G e.e) 0 Z))] by rw[qq b];rfl);have j:=ae (show(de G mm made nm.toList).isSome=ZF by rw[qq b];rfl);have i:=ae h;obtain⟨hl,-,-,c2,-,-,-⟩:=h.ab.K;have f:nm.size<=maxLen:=by unfold maxLen;omega
 have hz:=nA;have g:=ae ((BS w).alloc ly (J #[Q I 0,.pointer (T (N (G e.e) 0 Z))] 240));clear h b;go_enter func112,ntmps112
 go_wp2_with (first
  |(at_lookup;refine ie _ rfl _ _ 169 rfl 240 NM (hz _) mp _ _ rfl i.map nm rfl f _ l ZF j ?_)
  |fail)
 go_ret;exact⟨rfl,g⟩
theorem uA (w:M)(nm:ByteArray)(h:MI w0 S mb mp s0 s1 w making making made G V mk md)(hn:nm.size<=60)(hm:making.length<=60)(E:aZ made nm=Z)(i:Nat)(hi:atL making nm=T i):Calls Pg 112 #[.pointer (T (N mb 0 Z)),U nm] w λr w'=>∃v,r=.panicked [{ v:=.iface 235 (ZG #[v]),recovered:=ZA }]/\w'.ownsRow (B (z w)) 9 1 v (making.drop i).length (bo (making.drop i))/\Below (B (z w)) w w':=by
 have HV:=ae (show(de G making made nm.toList).getD (ZG #[Q I 0,.pointer Z])=ZG #[Q I (i:Int),.pointer Z] by rw[gG E,hi];rfl);have ZI:=ae (show(de G making made nm.toList).isSome=ZF by rw[gG E,hi];rfl);have HM:=ae h;obtain⟨hl,-,-,c2,c3,-,-⟩:=h.ab.K;have ZQ:i<making.length:=by unfold atL at hi;exact(List.findIdx?_eq_some_iff_findIdx_eq.1 hi).1
 obtain⟨g,cap,cur,rfl,hg1,C,ZK,hg4,P,R⟩:=h.rmk.2.resolve_left λh=>by omega
 have HC:=ae (h.rmk.cells (g:=g) rfl);have L:nm.size<=maxLen:=by unfold maxLen;omega
 have hz:=nA;obtain⟨o,l⟩:∃W:M,w.alloc (J #[Q I (i:Int),.pointer Z] 240)=W:=⟨_,rfl⟩
 obtain⟨m,-,-⟩:=nb1 l;have b:=ae l;clear l;have O:g<B (z w):=ag C;obtain⟨n,x⟩:∃n,n=making.length:=⟨_,rfl⟩
 rw[<-x] at ZQ hm c3 ZK;have ZS:=ae x;clear x;have u:=(m.cell (p:=(N mb 3 Z)) hl).trans c3;have ZP:A o (N (B (z w)) 0 Z)=T (Q I (i:Int)):=by rw[<-b.out];simp
 clear h E C P R hi;go_enter func112,ntmps112
 go_wp2_with (first
  |(at_lookup;refine ie _ rfl _ _ 169 rfl 240 NM (hz _) mp _ _ rfl HM.map nm rfl L _ HV ZF ZI ?_)
  |fail)
 clear c2 c3;have ZL:B (z w)<B (z o):=by rw[<-b.out];simp
 rw[b.out];clear b;have hI0:(0:Int)<=(i:Int):=by omega
 have hI1:(i:Int)<=(n:Int):=by omega
 have hI2:(n:Int)<=(cap:Int):=by omega
 have hcl:¬ cap=i:=by omega
 have D:mb<B (z o):=by have:=m.size;omega
 have ZT:B (z w)<B (z o):=ZL;have ZN:Hid (∀W,Below (B (z w)) w W->∀j,j<(making.drop i).length->A W (N g (i+j) Z)=T (U ((making.drop i).getD j ByteArray.empty))):=λW hW j hj=>by
  rw[J6] at hj
  have h1:=HC.out (i+j) (U ((making.drop i).getD j ByteArray.empty)) (by
   rw[bo,JM,gq (by omega)]
   simp[JB,TA,gq (show i+j<making.length by omega)])
  exact(hW.cell (p:=(N g (i+j) Z)) O).trans (by rw[addr_add,JC] at h1;exact h1)
 refine wp_region_held_drew (S:=λV=>A V (N mb 3 Z)=T (Y (T (N g 0 Z)) n cap)/\A V (N (B (z w)) 0 Z)=T (Q I (i:Int))) (by as_aux_lemma=>kernel_rfl) ⟨u,ZP⟩ λZM=>?_;have y:=ae ZM;clear ZM;iterate 7
  first|refine aR 0 (v:=?_) rfl rfl (by as_aux_lemma=>kernel_rfl) (λ_ _ _ h=>h) rfl ?_ y ?_|refine aR 4 (v:=?_) rfl rfl (by as_aux_lemma=>kernel_rfl) (λ_ _ _ h=>h) rfl ?_ y ?_
  rotate_left
  ·(rintro wz ⟨s0,s1⟩;go_simp)
   (try with_reducible rfl)
  (try simp only[Act.put,nzL])
 refine aI (i:=7) rfl (by as_aux_lemma=>kernel_rfl) λK H=>?_;go_simp;go_at_call 168;refine(Tryz.slices_Clone_string g i (n - i) (cap - i) (making.drop i) _ (by rw[J6,<-ZS.out];exact nX _) (by omega) (ZN _ m.drew)).mono ?_;rintro e ZO ⟨v2,rfl,f,ZR,q⟩;have O2:=ae f;obtain⟨g2,cap2,cur2,rfl,q1,ZJ⟩:=f.2.resolve_left (λh=>ZR h.1);have s:Hid (Below (B (z o)) o ZO):=⟨q.os,q.tape,q.output,q.size,q.block⟩
 clear f q q1 ZJ ZR;refine H _ _ ⟨(s.cell (p:=(N mb 3 Z)) D).trans u,(s.cell (p:=(N (B (z w)) 0 Z)) ZT).trans ZP⟩ ?_;clear H K y;have y:Hid (A ZO (N mb 3 Z)=T (Y (T (N g 0 Z)) n cap)/\A ZO (N (B (z w)) 0 Z)=T (Q I (i:Int))):=⟨(s.cell (p:=(N mb 3 Z)) D).trans u,(s.cell (p:=(N (B (z w)) 0 Z)) ZT).trans ZP⟩
 (try simp only[Act.put,nzL])
 iterate 2
  refine aR 8 (v:=?_) rfl rfl (by as_aux_lemma=>kernel_rfl) (λ_ _ _ h=>h) rfl ?_ y ?_;rotate_left
  ·(rintro wz ⟨s0,s1⟩;go_simp)
   (try with_reducible rfl)
  (try simp only[Act.put,nzL])
 refine aI (i:=10) rfl (by as_aux_lemma=>kernel_rfl) λK H=>?_;go_simp;refine⟨rfl,_,rfl,?_,?_⟩
 ·have h1:=aC (base':=B (z w)) O2 m.size;have X:(making.drop i).length=n - i:=by rw[J6,<-ZS.out]
  rw[X];rw[KI (by omega)] at h1;exact h1
 {exact m.trans (s.mono m.size)}
end
def ki {b:Type}(f:ByteArray->b)(nm:ByteArray)(v:b):ByteArray->b:=λt=>if t.toList=nm.toList then v else f t
theorem ee{b:Type}(f:ByteArray->b)(nm:ByteArray)(v:b):ki f nm v nm=v:=nL rfl
theorem iz{b:Type}(f:ByteArray->b){t:ByteArray}(v:b)(h:t≠nm):ki f nm v t=f t:=eT λe=>h (fZ e)
theorem xj (b:aZ made nm=Z)(h1:atL making nm=Z)(s:List UInt8):(if s=nm.toList then T (ZG #[Q I (making.length:Int),.pointer Z]) else de G making made s)=de G (making++[nm]) made s:=by
 unfold de;by_cases e:s=nm.toList;{subst e;rw[nL rfl,jf,b,ON,show List.findIdx? (λx:ByteArray=>x.toList == nm.toList) making=Z from h1];simp[PO]}
 ·rw[eT e,ON];have hn:(nm.toList == s)=ZA:=by simpa using λh=>e h.symm
  cases made.find? (λe=>e.e.toList == s) with
  |some x=>rfl
  |none=>simp[PO,hn]
theorem AX{b:ByteArray->Nat}{f:Nat}(l:aZ made nm=Z)(g:x.e=nm)(i:∀y∈made,b y.e=G y.e)(j:b nm=f)(m:mm=making∨mm=making++[nm])(s:List UInt8):(if s=nm.toList then T (ZG #[Q I 0,.pointer (T (N f 0 Z))]) else de G mm made s)=de b making (made++[x]) s:=by
 unfold de;rw[List.find?_append];by_cases e:s=nm.toList;{subst e;rw[nL rfl,jf,l];simp[g,j]}
 ·rw[eT e];have hn:(nm.toList == s)=ZA:=by simpa using λh=>e h.symm
  cases hf:made.find? (λe=>e.e.toList == s) with
  |some y =>simp only[Option.some_or];rw[i y (PD hf)]
  |none =>
   have h2:List.find? (λe:Ent=>e.e.toList == s) [x]=Z:=by simp[g,hn]
   rw[h2];rcases m with rfl|rfl;{rfl};{simp[ON,PO,hn]}
section
variable {w0 w:M}{S:Spc}{mb mp:Nat}{s0 s1 mk md:ZB}{mm making:List ByteArray}{made:List Ent}{G:ByteArray->Nat}{V:ByteArray->ZB}
theorem EntAt.congr{f:ByteArray->Nat}{v:ZB}(h:EntAt w0 S G w b v x)(i:∀l∈x.looks,l.ask=ZF->f l.e=G l.e):EntAt w0 S f w b v x:=by obtain⟨h1,h2,g⟩:=h;refine⟨h1,h2,?_⟩;rw[my i];exact g
theorem MIg.added{cnt:Nat}{v:ZB}(h:MIg w0 S mb mp s0 s1 w cnt (λs=>if s=nm.toList then T (ZG #[Q I 0,.pointer (T (N m 0 Z))]) else de G mm made s) making.length (bo making) (made.length+1) (lK G made++[.pointer (T (N m 0 Z))]) made G V mk md)(C:PG S making made)(t:aZ made nm=Z)(p:x.e=nm)
  (D:mm=making∨mm=making++[nm]) (E:cnt<=2*(made.length+1)+making.length) (ZT:EntAt w0 S G w m v x) (ZR:∀y∈made,G y.e≠m) (n:∀l∈x.looks,l.ask=ZF->∃y∈made,y.e=l.e) :
  MI w0 S mb mp s0 s1 w making making (made++[x]) (ki G nm m) (ki V nm v) mk md:=by
 have q:=dC t;have g:∀y∈made,ki G nm m y.e=G y.e:=λy f=>iz _ _ (q y f);have u:∀y∈made,ki V nm v y.e=V y.e:=λy f=>iz _ _ (q y f);have o:(made++[x]).length=made.length+1:=by simp
 refine⟨h.X,h.mbB,h.mpB,h.ab,h.rmk,?_,?_,λy f=>?_,?_⟩;{have e:lK (ki G nm m) (made++[x])=lK G made++[.pointer (T (N m 0 Z))]:=(by simp only[lK,JS,Q2,P9,p,ee];rw[List.map_congr_left λy f=>by rw[g y f]]);rw[e,o];exact h.W};{rw[o];exact(h.map.mono E).congr λs=>AX t p g (ee _ _ _) D s};{rcases BC.1 f with f|f;{rw[g y f,u y f];refine(h.ao y f).congr λl o n=>?_;obtain⟨i,hi⟩:=LF f;obtain⟨j,ZS,_,hz,hn⟩:=C.ord i y hi l o n;rw[<-hn];exact g ZS (JF hz)};{rw[hU.1 f,p,ee,ee];refine ZT.congr λl o r=>?_;obtain⟨ZS,hz,hn⟩:=n l o r;rw[<-hn];exact g ZS hz}};{rw[KT];refine⟨?_,P0 _ _,λa n b hb=>?_⟩;{exact h.dist.imp_of_mem λ{a b} n hb h=>by rw[g a n,g b hb];exact h};{rw[hU.1 hb,p,ee,g a n];exact ZR a n}}
structure Ext (n:Nat)(made made':List Ent)(G G':ByteArray->Nat)(V V':ByteArray->ZB):Prop where
 pre:∃more,made'=made++more
 same:∀x∈made,G' x.e=G x.e/\V' x.e=V x.e
 new:∀x∈made',x∈made∨(n<=G' x.e/\∀k,(V' x.e).ownBlock=T k->n<=k)
theorem Ext.refl (n:Nat)(made:List Ent)(G:ByteArray->Nat)(V:ByteArray->ZB):Ext n made made G G V V:=⟨⟨[],by simp⟩,λ_ _=>⟨rfl,rfl⟩,λ_ h=>.inl h⟩
theorem Ext.mem{made b:List Ent}{G f:ByteArray->Nat}{V g:ByteArray->ZB}(h:Ext n made b G f V g):∀x∈made,x∈b:=by obtain⟨more,e⟩:=h.pre;intro x i;rw[e];exact KE _ i
theorem Ext.trans{b c:List Ent}{t r l:ByteArray->Nat}{o s u:ByteArray->ZB}(h:Ext n a b t r o s)(k:Ext m b c r l s u)(g:n<=m):Ext n a c t l o u:=by
 obtain⟨p,ZR⟩:=h.pre;obtain⟨q,y⟩:=k.pre;refine⟨⟨p++q,by rw[y,ZR,KQ]⟩,λx f=>?_,λx f=>?_⟩;{obtain⟨ZT,D⟩:=h.same x f;obtain⟨j,i⟩:=k.same x (h.mem x f);exact⟨j.trans ZT,i.trans D⟩}
 ·rcases k.new x f with hb|⟨h1,h2⟩
  ·obtain⟨j,i⟩:=k.same x hb;rcases h.new x hb with C|⟨h1,h2⟩
   {exact .inl C};{exact .inr ⟨by rw[j];exact h1,by rw[i];exact h2⟩}
  {exact .inr ⟨nD g h1,λk ZS=>nD g (h2 k ZS)⟩}
theorem Ext.mono{b:List Ent}{j g:ByteArray->Nat}{l i:ByteArray->ZB}(h:Ext n a b j g l i)(f:m<=n):Ext m a b j g l i :=
 ⟨h.pre,h.same,λx p=>(h.new x p).imp id λ⟨h1,h2⟩=>⟨nD f h1,λk o=>nD f (h2 k o)⟩⟩
theorem DV{made:List Ent}{f:Nat}{v:ZB}(g:aZ made nm=Z)(h:x.e=nm)(h1:n<=f)(h2:∀k,v.ownBlock=T k->n<=k):Ext n made (made++[x]) G (ki G nm f) V (ki V nm v):=by
 refine⟨⟨_,rfl⟩,λy b=>⟨iz _ _ (dC g y b),iz _ _ (dC g y b)⟩,λy b=>?_⟩;rcases BC.1 b with b|b;{exact .inl b};{rw[hU.1 b,h,ee,ee];exact .inr ⟨h1,h2⟩}
theorem EU.step{r:Nat}{v:ZB}{f:List Ent}{m:ByteArray->Nat}{t:ByteArray->ZB}(h:EU w0 S w r nm tg G p v made V)(q:KX (B (z w0)) XN w w')(i:Ext (B (z w)) made f G m V t):EU w0 S w' r nm tg m p v f t:=by
 obtain⟨⟨a,cap,hb,j⟩,u,n,ZS,s,has⟩:=h;have y:∀l∈p,l.ask=ZF->m l.e=G l.e:=λl o j=>by obtain⟨x,b,e⟩:=has l o j;rw[<-e];exact(i.same x b).1
 have hebl:=ag hb;refine⟨⟨a,cap,(q.ad _ _ _ _ hb (by decide) (by decide) (by decide) λh=>h).trans hb,j⟩,u,?_,λx b=>?_,λx b k g=>?_,λl o j=>?_⟩;{rw[my y];refine bI n λk g=>?_;obtain⟨_,_,cs,ZT⟩:=af n k g;exact q.ad k _ _ _ ZT (by decide) (by decide) (by decide) λh=>h}
 ·rcases i.new x b with b|⟨h1,_⟩
  {rw[(i.same x b).1];exact ZS x b};{omega}
 ·rcases i.new x b with b|⟨_,h1⟩
  {rw[(i.same x b).2];exact s x b k g};{intro e;have:=h1 k e;have:=(af n k g).2.1;omega}
 {obtain⟨x,b,e⟩:=has l o j;exact⟨x,i.mem x b,e⟩}
end
structure Ctx (w0:M)(S:Spc)(a0:Option Addr)(c0:Nat)(a1:Option Addr)(c1:Nat):Prop where
 src:SlSource w0 a0 S.n0 S.f0
 j:SlTarget w0 a1 S.n1 S.f1
 ok:SpcOk S
 tab:Tab2 w0
 pow:Pow w0
 sz:∀i,i<S.n0->(S.f0 i).y.size<=maxLen
def s8 (w0:M)(S:Spc)(mb mp:Nat)(s0 s1:ZB)(making:List ByteArray)(made:List Ent)(G:ByteArray->Nat)(V:ByteArray->ZB)(w:M)(e:Ending)(w':M):Out Ent->Prop
 |.inl (made',x)=>∃b h f g,e=ZD (.pointer (T (N (b x.e) 0 Z)))/\MI w0 S mb mp s0 s1 w' making making made' b h f g/\Ext (B (z w)) made made' G b V h/\KX (B (z w0)) XN w w'
 |.inr (.inl c)=>∃v,e=.panicked [{ v:=.iface 235 (ZG #[v]),recovered:=ZA }]/\w'.ownsRow (B (z w0)) 9 1 v c.length (bo c)/\Below (B (z w0)) w w'
 |.inr (.inr d)=>e=.panicked [{ v:=.iface 237 (ZG #[U d]),recovered:=ZA }]/\Below (B (z w0)) w w'
def dP (S:Spc)(making:List ByteArray)(made:List Ent)(k:Nat):Prop:=made.length+201*du S making made+k<=50000
def iR (w0:M)(S:Spc)(mb mp:Nat)(s0 s1:ZB)(n:Nat):Prop:=∀making made G V mk md w nm,making.length+n=60->MI w0 S mb mp s0 s1 w making making made G V mk md->PG S making made->dP S making made 1->aA nm=ZF ->
 Calls Pg 112 #[.pointer (T (N mb 0 Z)),U nm] w λe w'=>s8 w0 S mb mp s0 s1 making made G V w e w' (aQ S n making made nm)
theorem oJ{a:Nat}(h:(Pg.info? e).map (λi=>(i.zero,i.size,i.bytes))=T (T ZS,a,b)):∃i,Pg.info? e=T i/\i.zero=T ZS/\i.size=a/\i.bytes=b:=by
 cases hi:Pg.info? e with
 |none=>rw[hi] at h;cases h
 |some i =>rw[hi] at h;simp only[PI,JE,JL] at h;exact⟨i,rfl,h⟩
theorem vm:(Pg.info? 280).map (λi=>(i.zero,i.size,i.bytes))=T (T (ZG #[U ⟨#[]⟩,ZC ZA,ZC ZA,Q I 0,.pointer Z]),5,40):=by kernel_rfl
theorem AY:(Pg.info? 9).map (λi=>(i.zero,i.size,i.bytes))=T (T (U ⟨#[]⟩),1,16):=by kernel_rfl
theorem AZ:(Pg.info? 172).map (λi=>(i.zero,i.size,i.bytes))=T (T (.pointer Z),1,8):=by kernel_rfl
abbrev ti (t:ZH):Prop:=t≠9/\t≠172/\t≠171/\t≠176/\t≠280
section
variable {w0 w:M}{S:Spc}{mb mp:Nat}{s0 s1 mk md:ZB}{cnt nk np:Nat}{F:List UInt8->Option ZB}{ks ps:List ZB}{made:List Ent}{G:ByteArray->Nat}{V:ByteArray->ZB}
theorem MIg.R{fz:Nat × Nat}(h:MIg w0 S mb mp s0 s1 w cnt F nk ks np ps made G V mk md)(hb:w.heap[b]?=T (J l t fz))(y:ti t)(ZR:B (z w0)<=b)(j:Nat)(u:ZB):MIg w0 S mb mp s0 s1 (w.setCell (N b j Z) u) cnt F nk ks np ps made G V mk md:=by
 have r:KX (B (z w0)) (λi=>i=b) w (w.setCell (N b j Z) u):=KX.setCell (X:=λi=>i=b) w ZR (Or.inl rfl) u;obtain⟨ZT,C,s,D,ZS⟩:=y;refine h.kx r (λi o hi p=>qh _ _ _ _ λe=>p e) (λe=>?_) (λe=>?_) (λk f e=>?_) (λk f e=>?_) λx q=>⟨λe=>?_,λk f e=>?_⟩
 {subst e;exact s (ah hb h.ab)};{obtain⟨es,c,n⟩:=h.map.isMap;rw[e,hb] at n;cases n};{subst e;obtain⟨_,_,l,g⟩:=af h.rmk _ f;exact ZT (ah hb g)};{subst e;obtain⟨_,_,l,g⟩:=af h.W _ f;exact C (ah hb g)};{obtain⟨act,m,_⟩:=(h.ao x q).ad;rw[e] at m;exact D (ah hb m)};{subst e;obtain⟨_,_,l,g⟩:=af (h.ao x q).row _ f;exact ZS (ah hb g)}
theorem EU.R{l:Nat}{n:List Lk}{v:ZB}{fz:Nat × Nat}(h:EU w0 S w l nm tg G n v made V)(hb:w.heap[b]?=T (J i t fz))(p:ti t)(j:Nat)(u:ZB):EU w0 S (w.setCell (N b j Z) u) l nm tg G n v made V:=by
 obtain⟨⟨a,cap,f,s⟩,o,g,q,m,has⟩:=h;obtain⟨t1,t2,t3,x,r⟩:=p;refine⟨⟨a,cap,(qh _ _ _ _ λe=>?_).trans f,s⟩,o,ay g (λe=>?_) _ _,q,m,has⟩;{simp at e;subst e;exact x (ah hb f)};{obtain⟨_,_,i,y⟩:=af g _ e;exact r (ah hb y)}
theorem EU.aa{j:List Lk}{v:ZB}(h:EU w0 S w g nm tg G j v made V)(hb:Below C w w')(f:B (z w)<=C):EU w0 S w' g nm tg G j v made V:=by obtain⟨⟨a,cap,b,o⟩,l,m,n,i,has⟩:=h;exact⟨⟨a,cap,(hb.block _ (lj (ag b) f)).trans b,o⟩,l,own_below m hb f,n,i,has⟩
theorem EntBlk.K{text:ByteArray}{kind code place:Int}{act:ZB}(h:EntBlk w b nm kind code text act f place):b<B (z w)/\A w (N b 0 Z)=T (U nm)/\A w (N b 1 Z)=T (Q I kind)/\A w (N b 2 Z)=T (Q I code)/\A w (N b 3 Z)=T (U text)/\A w (N b 4 Z)=T act/\A w (N b 5 Z)=T (Y Z 0 0)/\A w (N b 6 Z)=T f/\A w (N b 7 Z)=T (Q I place)/\∀j,w.frozen? (N b j Z)=ZA:=by unfold EntBlk at h;refine⟨ag h,?_,?_,?_,?_,?_,?_,?_,?_,λj=>?_⟩;all_goals simp[World.cell?,World.frozen?,h]
theorem EU.tied{j:M}{m:List Lk}{v:ZB}{l:Lk}(h:EU w0 S w b nm tg G m v made V)(H:l.ask=ZF->∃x∈made,x.e=l.e)(D:w.grownBy j v.ownBlock)(p:j.ownsRow (B (z w0)) 280 5 v' (m.length+1) (fV G m++pA G l))(ZR:v'.ownBlock=v.ownBlock∨v'.ownBlock=T (B (z w)))(y:∀x∈made,∀k,(V x.e).ownBlock=T k->k<B (z w)):EU w0 S (j.setCell (N b 6 Z) v') b nm tg G (m++[l]) v' made V:=by
 obtain⟨⟨a,cap,i,C⟩,u,r,ZT,q,has⟩:=h;have s:T b≠v.ownBlock:=λe=>by obtain⟨_,_,E,o⟩:=af r b e.symm;exact absurd (ah i o) (by decide)
 have f:j.heap[b]?=_:=(D.block b (ag i) s).trans i;refine⟨⟨a,cap,au f v',C⟩,u,?_,ZT,λx t k n=>?_,λZS hz g=>?_⟩;{rw[yK,eL,D0];refine ay p (λe=>?_) _ _;obtain⟨_,_,E,o⟩:=af p b e;exact absurd (ah f o) (by decide)}
 ·rcases ZR with e|e;{exact q x t k (by rw[<-e];exact n)}
  ·rw[e] at n;cases n
   intro ZP;have:=y x t _ ZP;omega
 {rcases BC.1 hz with hz|hz;{exact has ZS hz g};{rw[hU.1 hz] at g ⊢;exact H g}}
theorem MIg.tied{n:M}{p:Nat}{H:List Lk}{v:ZB}(h:MIg w0 S mb mp s0 s1 w cnt F nk ks np ps made G V mk md)(K:EU w0 S w p nm tg G H v made V)(ZT:w.grownBy n v.ownBlock):MIg w0 S mb mp s0 s1 (n.setCell (N p 6 Z) v') cnt F nk ks np ps made G V mk md/\KX (B (z w0)) (λi=>i=p∨v.ownBlock=T i) w (n.setCell (N p 6 Z) v'):=by
 obtain⟨⟨a,cap,b,ha⟩,D,m,E,ZS,has⟩:=K;have ZP:KX (B (z w0)) (λi=>i=p∨v.ownBlock=T i) w n:=KX.of_grown ZT h.lt λj ZR=>⟨(af m j ZR).1,.inl (.inr ZR)⟩
 have ZO:KX (B (z w0)) (λi=>i=p∨v.ownBlock=T i) n (n.setCell (N p 6 Z) v'):=KX.setCell n D (.inl (.inl rfl)) v';have y:=ZP.trans ZO λ_ _ h=>h;refine⟨h.kx y (λi o hi s=>?_) (λe=>?_) (λe=>?_) (λk l e=>?_) (λk l e=>?_) (λx r=>⟨λe=>?_,λk l e=>?_⟩),y⟩;{exact(qh _ _ _ _ λe=>s (.inl e)).trans (ZT.block i (ag hi) λe=>s (.inr e.symm))};{rcases e with e|e;{rw[<-e] at b;exact absurd (ah b h.ab) (by decide)};{obtain⟨_,_,u,g⟩:=af m _ e;exact absurd (ah g h.ab) (by decide)}};{obtain⟨es,c,C⟩:=h.map.isMap;rcases e with e|e;{unfold EntBlk at b;rw[<-e,C] at b;cases b};{obtain⟨_,_,u,g⟩:=af m _ e;rw[C] at g;cases g}};{obtain⟨_,_,u,g⟩:=af h.rmk _ l;rcases e with e|e;{rw[<-e] at b;exact absurd (ah b g) (by decide)};{obtain⟨_,_,q,f⟩:=af m _ e;exact absurd (ah g f) (by decide)}};{obtain⟨_,_,u,g⟩:=af h.W _ l;rcases e with e|e;{rw[<-e] at b;exact absurd (ah b g) (by decide)};{obtain⟨_,_,q,f⟩:=af m _ e;exact absurd (ah g f) (by decide)}};{rcases e with e|e;{exact E x r e};{obtain⟨act,t,_⟩:=(h.ao x r).ad;obtain⟨_,_,q,f⟩:=af m _ e;exact absurd (ah t f) (by decide)}};{rcases e with e|e;{obtain⟨_,_,q,f⟩:=af (h.ao x r).row _ l;rw[<-e] at b;exact absurd (ah b f) (by decide)};{exact ZS x r k e l}}
theorem MIg.vlt (h:MIg w0 S mb mp s0 s1 w cnt F nk ks np ps made G V mk md):∀x∈made,∀k,(V x.e).ownBlock=T k->k<B (z w):=λx f k b=>(af (h.ao x f).row k b).2.1
end
open Ca
theorem ct{size:Nat}{v:ZB}{f:List ZB}(h:w.ownsRow b e size v n f):∃a cap,v=Y a n cap:=by
 obtain⟨_,⟨rfl,rfl⟩|⟨g,cap,cur,rfl,_⟩⟩:=h;{exact⟨Z,0,rfl⟩};{exact⟨_,_,rfl⟩}
theorem vq (w:M)(i f m b l:ZB)(t:ZH):∀j u,[i,f,m,b,l][j]?=T u->(w.alloc (J #[i,f,m,b,l] t)).cell? (((N (B (z w)) 0 Z):Addr).add j)=T u:=by
 intro j u h;rw[addr_add];have hj:j<5:=by
  rcases J7 j 5 with g|g;{exact g};{rw[JR (by simp;omega)] at h;cases h}
 rcases(show j=0∨j=1∨j=2∨j=3∨j=4 by omega) with rfl|rfl|rfl|rfl|rfl;all_goals
  simp at h;subst h;simp
section
variable {w0:M}{S:Spc}{a0 a1:Option Addr}{c0 c1 mb mp:Nat}{mk md:ZB}{making:List ByteArray}{made:List Ent}{G:ByteArray->Nat}{V:ByteArray->ZB}
def RepSt (w0:M)(S:Spc)(mb mp:Nat)(s0 s1:ZB)(w w':M)(making:List ByteArray)(made:List Ent)(G:ByteArray->Nat)(V:ByteArray->ZB)(mk md:ZB)(b tg:Nat)(nm:ByteArray)(g:List Lk)(v f:ZB):Prop :=
 MI w0 S mb mp s0 s1 w' making making made G V mk md/\EU w0 S w' b nm tg G g f made V/\KX (B (z w0)) (λi=>i=b∨v.ownBlock=T i) w w'/\∀k,f.ownBlock=T k->v.ownBlock=T k∨(B (z w))<=k
theorem RepSt.set{W:M}{v n:ZB}(h:RepSt w0 S mb mp s0 s1 w W making made G V mk md m tg nm p v n)(hb:W.heap[b]?=T (J l t (0,0)))(g:ti t)(o:B (z w0)<=B (z w))(f:B (z w)<=b)(j:Nat)(u:ZB):RepSt w0 S mb mp s0 s1 w (W.setCell (N b j Z) u) making made G V mk md m tg nm p v n/\(W.setCell (N b j Z) u).heap[b]?=T (J (l.setIfInBounds j u) t (0,0)) :=
 ⟨⟨h.1.R hb g (nD o f) j u,h.2.1.R hb g j u,h.2.2.1.trans (KX.setCell (X:=λi=>i=b) W (nD o f) (Or.inl rfl) u) (λi hi e=>by have e2:i=b:=e;omega),h.2.2.2⟩,au hb u⟩
theorem dG{g i:ZB}(h:w.heap[b]?=T (J #[g,f,i] t (0,0))):b<B (z w)/\A w (N b 0 Z)=T g/\A w (N b 1 Z)=T f/\A w (N b 2 Z)=T i/\∀j,w.frozen? (N b j Z)=ZA:=by refine⟨ag h,?_,?_,?_,λj=>?_⟩;all_goals simp[World.cell?,World.frozen?,h]
def FG (w W:M)(c0 c1 c2 c3 c4 c5:ZB):Prop:=Hid (Below (B (z w)) w W)/\A W (N (B (z w)) 3 Z)=T c3/\A W (N (B (z w)) 4 Z)=T c4/\(B (z W))=B (z w)+2/\Hid (W.heap[B (z w)+1]?=T (J #[ZC ZA,Q I 0,U ⟨#[]⟩] 166 (0,0)))/\Hid (W.heap[B (z w)]?=T (J #[c0,c1,c2,c3,c4,c5] 163 (0,0)))
theorem vr (w:M)(c0 c1 c2 c3 c4 c5:ZB):FG w ((w.alloc (J #[c0,c1,c2,c3,c4,c5] 163)).alloc (J #[ZC ZA,Q I 0,U ⟨#[]⟩] 166)) c0 c1 c2 c3 c4 c5:=by refine⟨((BS w).alloc ly _).alloc (by simp) _,by simp[go_sem],by simp[go_sem],by simp,?_,(((cM (B (z w)+1) _).alloc (by simp) _).block (B (z w)) (by omega)).trans (gM w _)⟩;have h2:=gM (w.alloc (J #[c0,c1,c2,c3,c4,c5] 163)) (J #[ZC ZA,Q I 0,U ⟨#[]⟩] 166);rw[show(w.alloc (J #[c0,c1,c2,c3,c4,c5] 163)).heap.size=B (z w)+1 by simp] at h2;exact h2
def vt (w0:M)(S:Spc)(mb mp:Nat)(s0 s1:ZB)(making:List ByteArray)(made:List Ent)(G:ByteArray->Nat)(V:ByteArray->ZB)(w:M)(i tg:Nat)(nm name:ByteArray)(l:List Lk)(v:ZB)(e:Ending)(w':M):Out Ent->Prop
 |.inl (made',x)=>e=ZD (ZG #[ZC (decide (¬ x.H=2)),Q I x.E,U x.y])/\∃b g h f j,RepSt w0 S mb mp s0 s1 w w' making made' b g h f i tg nm (l++[⟨name,ZF,ZA⟩]) v j/\Ext (B (z w)) made made' G b V g
 |.inr (.inl c)=>∃v,e=.panicked [{ v:=.iface 235 (ZG #[v]),recovered:=ZA }]/\w'.ownsRow (B (z w0)) 9 1 v c.length (bo c)/\Below (B (z w0)) w w'
 |.inr (.inr d)=>e=.panicked [{ v:=.iface 237 (ZG #[U d]),recovered:=ZA }]/\Below (B (z w0)) w w'
set_option linter.unusedVariables false in
theorem qt:(∀(C:Ctx w0 S a0 c0 a1 c1) (w:M) (f tg:Nat) (nm:ByteArray) (b:List Lk) (v:ZB) (ZL:Turn) (h:MI w0 S mb mp (Y a0 S.n0 c0) (Y a1 S.n1 c1) w making making made G V mk md) (y:EU w0 S w f nm tg G b v made V) (sm:b.length<=200) (ZS:ZL.ask=ZA),Calls Pg 291 #[.pointer (T (N mb 0 Z)),.pointer (T (N f 0 Z)),ZL.v] w λe w'=>e=ZD (ZG #[ZC (ft S ZL.e),Q I 0,U ⟨#[]⟩])/\∃v',RepSt w0 S mb mp (Y a0 S.n0 c0) (Y a1 S.n1 c1) w w' making made G V mk md f tg nm (b++[⟨ZL.e,ZA,ft S ZL.e⟩]) v v')/\(∀(C:Ctx w0 S a0 c0 a1 c1) (n:Nat) (HL:iR w0 S mb mp (Y a0 S.n0 c0) (Y a1 S.n1 c1) n) (w:M) (f tg:Nat) (nm:ByteArray) (b:List Lk) (v:ZB) (ZL:Turn) (ro:making.length+n=60) (h:MI w0 S mb mp (Y a0 S.n0 c0) (Y a1 S.n1 c1) w making making made G V mk md) (hp:PG S making made) (mv:dP S making made 1) (y:EU w0 S w f nm tg G b v made V) (sm:b.length<=200) (ZS:ZL.ask=ZF) (hn:aA ZL.e=ZF),Calls Pg 291 #[.pointer (T (N mb 0 Z)),.pointer (T (N f 0 Z)),ZL.v] w λe w'=>vt w0 S mb mp (Y a0 S.n0 c0) (Y a1 S.n1 c1) making made G V w f tg nm ZL.e b v e w' (aQ S n making made ZL.e)):=by
 refine⟨λC w f tg nm b v ZL h y sm ZS=>?_,λC n HL w f tg nm b v ZL ro h hp mv y sm ZS hn=>?_⟩;focus
  obtain⟨i1,hi,DE,DQ,ph⟩:=oJ vm;obtain⟨s,r,rfl⟩:=ct y.row;obtain⟨over,code,text,ask,name,steps⟩:=ZL;simp only at ZS;subst ZS;obtain⟨ZT,CD,E,Bk,kr,-⟩:=vr w (ZC over) (Q I code) (U text) (ZC ZA) (U name) (Q I steps);have ZN:=ae (h.aa ZT ly);have U0:=ae (y.aa ZT ly);have ZJ:=ae C;have t:B (z w0)<=B (z w):=h.lt;have FY:f<B (z w):=by obtain⟨⟨aa,ca,j,ha⟩,-⟩:=y;exact ag j
  have FU:Hid (T (B (z w)+1)≠(Value.slice s b.length r).ownBlock):=λe=>by have:=(af y.row _ e.symm).2.1;omega
  have TN:Hid (T (B (z w))≠(Value.slice s b.length r).ownBlock):=λe=>by have:=(af y.row _ e.symm).2.1;omega
  clear h y C;show Calls Pg 291 #[.pointer (T (N mb 0 Z)),.pointer (T (N f 0 Z)),ZG #[ZC over,Q I code,U text,ZC ZA,U name,Q I steps]] w _;obtain⟨hb,At⟩:∃hb,hb=ft S name:=⟨_,rfl⟩
  have F0:=ae At;rw[<-At];clear At;go_enter func291,ntmps291;go_wp2_with fail;clear CD;generalize World.alloc (World.alloc w _) _=W0 at ZT E Bk kr ZN U0 ⊢;obtain⟨n8,m0,m1,-⟩:=ZN.ab.K;refine wp_region_held_drew (S:=λV=>A V (N mb 0 Z)=T (Y a0 S.n0 c0)/\A V (N mb 1 Z)=T (Y a1 S.n1 c1)/\A V (N (B (z w)) 4 Z)=T (U name)) (by kernel_rfl) ⟨m0,m1,E⟩ λhS=>?_;have ZP:=ae hS;clear hS
  iterate 6
   first|refine aR 0 (v:=?_) rfl rfl (by kernel_rfl) (λ_ _ _ h=>h) rfl ?_ ZP ?_|refine aR 4 (v:=?_) rfl rfl (by kernel_rfl) (λ_ _ _ h=>h) rfl ?_ ZP ?_
   rotate_left
   ·(rintro wz ⟨s0,s1,s2⟩;go_simp)
    (try with_reducible rfl)
   (try simp only[Act.put,nzL])
  refine aI (i:=6) rfl (by kernel_rfl) λK m=>?_;go_simp;go_at_call 180;have qr:Hid (Below (B (z w0)) w0 W0.drew):=ZN.X.drew;refine(CY a0 S.n0 c0 S.f0 a1 S.n1 c1 S.f1 name _ (by have:=ZJ.ok.ax;omega) (by have:=ZJ.ok.ax;omega) (ZJ.src.aa qr ly) (ZJ.j.aa qr ly) ZJ.ok.asc0 ZJ.ok.asc1).mono ?_;rintro e g ⟨he,hB⟩;rw[show(aF (nm0 S.f0) S.n0 name || aF (nm1 S.f1) S.n1 name)=hb from F0.symm] at he;subst he;have ZO:Hid (Below (B (z W0)) W0 g):=⟨hB.os,hB.tape,hB.output,hB.size,hB.block⟩
  clear hB qr;have FM:B (z w)<B (z W0):=by omega
  refine m _ _ ⟨(ZO.cell (p:=(N mb 0 Z)) n8).trans m0,(ZO.cell (p:=(N mb 1 Z)) n8).trans m1,(ZO.cell (p:=(N (B (z w)) 4 Z)) FM).trans E⟩ ?_;clear m K ZP;have ZP:Hid (A g (N mb 0 Z)=T (Y a0 S.n0 c0)/\A g (N mb 1 Z)=T (Y a1 S.n1 c1)/\A g (N (B (z w)) 4 Z)=T (U name)):=⟨(ZO.cell (p:=(N mb 0 Z)) n8).trans m0,(ZO.cell (p:=(N mb 1 Z)) n8).trans m1,(ZO.cell (p:=(N (B (z w)) 4 Z)) FM).trans E⟩
  (try simp only[Act.put,nzL])
  refine aR 7 (v:=?_) rfl rfl (by kernel_rfl) (λ_ _ _ h=>h) rfl ?_ ZP ?_;rotate_left
  ·(rintro wz ⟨s0,s1,s2⟩;go_simp)
   (try with_reducible rfl)
  (try simp only[Act.put,nzL])
  refine wpAnyH_done (by kernel_rfl) ?_ _;have A1:=ae (ZT.trans (ZO.mono ZT.size));have KW:=ae (KX.q (X:=XN) A1 ly t);have M1:=ae (ZN.aa ZO ly);have U1:=ae (U0.aa ZO ly);have n4:=ZP.2.2;have FV:Hid (g.heap[B (z w)+1]?=T (J #[ZC ZA,Q I 0,U ⟨#[]⟩] 166 (0,0))):=(ZO.block _ (by omega)).trans kr;have F8:B (z w)+2<=B (z g):=by have:=ZO.size;omega
  clear ZP m0 m1 E ZN U0 kr ZT;go_wp2_with fail;obtain⟨o,ZK⟩:∃x,x=made:=⟨_,rfl⟩
  subst ZK;obtain⟨ZQ,ZK⟩:∃x,x=G:=⟨_,rfl⟩
  subst ZK;obtain⟨V',ZK⟩:∃x,x=V:=⟨_,rfl⟩
  subst ZK;obtain⟨aq,ZK⟩:∃x,x=mk:=⟨_,rfl⟩
  subst ZK;obtain⟨bt,ZK⟩:∃x,x=md:=⟨_,rfl⟩
  subst ZK;have MH:=True.intro;obtain⟨lk,ur⟩:∃l:Lk,l=⟨name,ZA,hb⟩:=⟨_,rfl⟩
 rotate_left;focus
  obtain⟨i1,hi,DE,DQ,ph⟩:=oJ vm;obtain⟨s,r,rfl⟩:=ct y.row;obtain⟨over,code,text,ask,name,steps⟩:=ZL;simp only at ZS hn;subst ZS;obtain⟨ZT,CD,E,Bk,kr,kt⟩:=vr w (ZC over) (Q I code) (U text) (ZC ZF) (U name) (Q I steps);have ZN:=ae (h.aa ZT ly);have U0:=ae (y.aa ZT ly);have ZJ:=ae C;have F3:=ae HL;have PP:=ae hp;have t:B (z w0)<=B (z w):=h.lt;have FY:f<B (z w):=by obtain⟨⟨aa,ca,j,ha⟩,-⟩:=y;exact ag j
  have FU:Hid (T (B (z w)+1)≠(Value.slice s b.length r).ownBlock):=λe=>by have:=(af y.row _ e.symm).2.1;omega
  have TN:Hid (T (B (z w))≠(Value.slice s b.length r).ownBlock):=λe=>by have:=(af y.row _ e.symm).2.1;omega
  clear h y C HL hp;show Calls Pg 291 #[.pointer (T (N mb 0 Z)),.pointer (T (N f 0 Z)),ZG #[ZC over,Q I code,U text,ZC ZF,U name,Q I steps]] w _;obtain⟨R,hR⟩:∃R,R=aQ S n making made name:=⟨_,rfl⟩
  have HR:=ae hR;simp only;rw[<-hR];clear hR;go_enter func291,ntmps291;go_wp2_with fail;clear CD E;generalize World.alloc (World.alloc w _) _=W0 at ZT Bk kr kt ZN U0 ⊢;refine(F3 making made G V mk md W0 name ro ZN PP mv hn).mono ?_;intro e g ZR;rw[<-HR.out] at ZR;rcases R with ⟨o,x⟩|c|d;rotate_left
  ·obtain⟨u,rfl,h1,h2⟩:=ZR
   go_wp2_with fail;exact⟨rfl,u,rfl,h1,(ZT.mono t).trans h2⟩
  ·obtain⟨rfl,h2⟩:=ZR
   go_wp2_with fail;exact⟨rfl,rfl,(ZT.mono t).trans h2⟩
  obtain⟨ZQ,V',aq,bt,rfl,hM,hE,m⟩:=ZR;obtain⟨F7,-,hx,n9⟩:=ey ZJ.ok n making made name o x PP hn HR.symm;have M1:=ae hM;have U1:=ae (U0.step m hE);have E1:=ae (hE.mono (show (B (z w))<=B (z W0) by omega));have KW:=ae ((KX.q (X:=XN) ZT ly t).to m);have HX:=ae hx;have FQ:=ae n9;have F8:B (z w)+2<=B (z g):=by have:=m.aa.size;omega
  have FV:Hid (g.heap[B (z w)+1]?=T (J #[ZC ZA,Q I 0,U ⟨#[]⟩] 166 (0,0))):=(m.ad _ _ _ _ kr (by decide) (by decide) (by decide) λh=>h).trans kr;have FW:=(m.ad _ _ _ _ kt (by decide) (by decide) (by decide) λh=>h).trans kt;have n4:A g (N (B (z w)) 4 Z)=T (U name):=by simp[World.cell?,FW]
  rw[n9];clear hM hE m hx n9 F7 FW ZN U0 kr kt;go_wp2_with fail;obtain⟨lk,ur⟩:∃l:Lk,l=⟨name,ZF,ZA⟩:=⟨_,rfl⟩
 all_goals
  obtain⟨⟨aa,ca,j,ha⟩,-⟩:=U1.out;obtain⟨FK,-,-,-,-,-,-,e6,-,ef⟩:=j.K;have ef6:=ef 6;have hebB:B (z w0)<=f:=U1.ge;clear j ha ef;have SQ:Hid (∀V:M,(∀k,k<B (z g)->T k≠(Value.slice s b.length r).ownBlock->V.heap[k]?=g.heap[k]?)->A V (N f 6 Z)=T (Y s b.length r)/\A V (N (B (z w)) 4 Z)=T (U name)):=λV hV=>by
   have W:T f≠(Value.slice s b.length r).ownBlock:=λe=>by obtain⟨⟨aa,ca,j,ha⟩,-⟩:=U1.out;obtain⟨_,_,cs,hc⟩:=af U1.row f e.symm;exact absurd (ah j hc) (by decide)
   have FX:T (B (z w))≠(Value.slice s b.length r).ownBlock:=TN.out;exact⟨(cq (a:=(N f 6 Z)) (hV f FK W)).trans e6,(cq (a:=(N (B (z w)) 4 Z)) (hV (B (z w)) (by omega) FX)).trans n4⟩
  have ZP:=ae (SQ g.drew (λk O _=>rfl));have UD:Hid (EU w0 S g.drew f nm tg ZQ b (Y s b.length r) o V'):=U1.aa br.drew ly;have MD:Hid (MI w0 S mb mp (Y a0 S.n0 c0) (Y a1 S.n1 c1) g.drew making making o ZQ V' aq bt):=M1.aa br.drew ly;refine aD (λV=>A V (N f 6 Z)=T (Y s b.length r)/\A V (N (B (z w)) 4 Z)=T (U name)) 14 (by kernel_rfl) ?_;clear e6 n4
  iterate 10
   first|refine aH 0 (v:=?_) rfl rfl (by kernel_rfl) (λ_ _ _ h=>h) rfl ?_ ZP ?_|refine aH 5 (v:=?_) rfl rfl (by kernel_rfl) (λ_ _ _ h=>h) rfl ?_ ZP ?_
   rotate_left
   ·(rintro wz ⟨s0,s1⟩;go_simp)
    (try with_reducible rfl)
   (try simp only[Act.put,nzL])
  refine ai (i:=10) rfl (by kernel_rfl) λK m=>?_;go_simp;first|(guard_hyp MH;have H:=ae ((cM (B (z g)) g.drew).alloc ly (J #[U name,ZC ZA,ZC hb,Q I 0,.pointer Z] 280)))|have H:=ae ((cM (B (z g)) g.drew).alloc ly (J #[U name,ZC ZF,ZC ZA,Q I 0,.pointer (T (N (ZQ name) 0 Z))] 280))
  have UA:=ae (UD.aa H ly);have MA:=ae (MD.aa H ly);refine m _ _ (λ_=>SQ _ (λk O _=>H.block k O)) ?_;clear m K
  (try simp only[Act.put,nzL])
  refine ai (i:=11) rfl (by kernel_rfl) λK m=>?_;first|(guard_hyp MH;refine aW rfl (.tmp 23) (.tmp 29) 174 rfl (B (z w0)) 280 i1 (ZG #[U ⟨#[]⟩,ZC ZA,ZC ZA,Q I 0,.pointer Z]) 5 40 underlying174 hi DE DQ ph rfl (by decide) (Y s b.length r) b.length (fV ZQ b) (by simp[Act.eval]) UA.row (N (B (z g)) 0 Z) 1 1 [U name,ZC ZA,ZC hb,Q I 0,.pointer Z] (by simp[Act.eval]) rfl (vq g.drew _ _ _ _ _ _) (by simp[Value.oneCell']) (by unfold maxLen;omega) (by omega) MA.lt ?_)|refine aW rfl (.tmp 43) (.tmp 49) 174 rfl (B (z w0)) 280 i1 (ZG #[U ⟨#[]⟩,ZC ZA,ZC ZA,Q I 0,.pointer Z]) 5 40 underlying174 hi DE DQ ph rfl (by decide) (Y s b.length r) b.length (fV ZQ b) (by simp[Act.eval]) UA.row (N (B (z g)) 0 Z) 1 1 [U name,ZC ZF,ZC ZA,Q I 0,.pointer (T (N (ZQ name) 0 Z))] (by simp[Act.eval]) rfl (vq g.drew _ _ _ _ _ _) (by simp[Value.oneCell']) (by unfold maxLen;omega) (by omega) MA.lt ?_
  intro v' w3 ld P FO;have O3:=ae ld;have G3:=ae P;have th:=ae FO;have S3:=ae (SQ w3 (λk O W=>(P.block k (lj O (by simp<;>omega)) W).trans (H.block k O)));obtain⟨L,D,rfl⟩:=ct ld;clear ld P FO;refine m _ _ (λ_=>S3) ?_;clear m K ZP
  (try simp only[Act.put,nzL])
  iterate 2
   refine bH 12 rfl rfl (by kernel_rfl) λK m=>?_;go_simp;refine m _ _ (λ_=>S3) ?_;clear m K
   (try simp only[Act.put,nzL])
  have M4:=ae (MA.tied UA G3 (v':=Y L (b.length+1) D));first|(guard_hyp MH;have U4:=ae (UA.tied (l:=⟨name,ZA,hb⟩) (λh=>by cases h) G3.out O3.out th.out MA.vlt))|have U4:=ae (UA.tied (l:=⟨name,ZF,ZA⟩) (λ_=>⟨x,HX,FQ⟩) G3 O3 th MA.vlt)
  rw[<-ur] at U4;have s6:=S3.1;have FZ:w3.frozen? (N f 6 Z)=ZA:=by
   obtain⟨⟨aa,ca,j,ha⟩,-⟩:=UA.out;have W:T f≠(Value.slice s b.length r).ownBlock:=λe=>by obtain⟨_,_,cs,hc⟩:=af UA.row f e.symm;exact absurd (ah j hc) (by decide)
   exact(JK (a:=(N f 6 Z)) (G3.block f (ag j) W)).trans (j.K.2.2.2.2.2.2.2.2.2 6)
  have F9:B (z g)<=B (z w3):=nD (by simp<;>omega) G3.size;have hel3:f<B (z w3):=lj FK F9;refine ai (i:=14) rfl (by kernel_rfl) λK m=>?_;go_simp;refine m _ _ (λh=>absurd rfl h) ?_;clear m K s6 FZ
  (try simp only[Act.put,nzL])
  refine aT (by kernel_rfl) ?_ _;have RB:Hid ((w3.setCell (N f 6 Z) (Y L (b.length+1) D)).heap[B (z w)+1]?=T (J #[ZC ZA,Q I 0,U ⟨#[]⟩] 166 (0,0))):=(qh _ _ _ _ (show (B (z w))+1≠f by omega)).trans ((G3.block _ (lj (show (B (z w))+1<B (z g) by omega) (by simp<;>omega)) FU).trans ((H.block _ (by omega)).trans FV));have R4:Hid (RepSt w0 S mb mp (Y a0 S.n0 c0) (Y a1 S.n1 c1) w (w3.setCell (N f 6 Z) (Y L (b.length+1) D)) making o ZQ V' aq bt f tg nm (b++[lk]) (Y s b.length r) (Y L (b.length+1) D)):=by
   refine⟨M4.1,U4,?_,λk O=>?_⟩
   ·exact((KW.to (KX.q (X:=XN) (⟨H.os,H.tape,H.output,H.size,H.block⟩:Below (B (z g)) g _) ly (by omega))).weak).trans M4.2 λ_ _ h=>h
   ·rcases th.out with e|e
    ·exact .inl (by rw[<-e];exact O)
    ·rw[e] at O
     cases O
     exact .inr (nD (show (B (z w))<=B (z g) by omega) (by simp<;>omega))
  generalize World.setCell w3 _ _=W4 at RB R4 ⊢;obtain⟨rl,r0,r1,r2,ZM⟩:=dG RB;have Fd:=ZM 0;have Fm:=ZM 1;have Fk:=ZM 2;subst ur
 focus
  clear ZM M4 U4;have EX:=ae (R4.1.ao x HX);obtain⟨act,j,fd⟩:=EX.ad;rw[FQ.out] at j;obtain⟨q,q0,q1,q2,q3,q4,q5,-,-,-⟩:=j.K;obtain⟨aa,na,ca,rfl⟩:∃a n c,act=Y a n c:=by
   unfold oI at fd;split at fd
   ·obtain⟨_,a,c,e,_⟩:=fd;exact⟨a,_,c,e⟩
   ·exact⟨_,_,_,fd⟩
  clear j fd;go_wp2_with fail;refine(xJ ⟨name,x.H,x.E,x.y,na,λ_=>⟨0,⟨#[]⟩,0⟩,0,λ_=>⟨⟨#[]⟩,ZA,ZA,0⟩⟩ aa ca Z 0 W4).mono ?_;rintro e w5 ⟨rfl,ZI⟩;have FP:Hid (w5.heap[B (z w)+1]?=T (J #[ZC ZA,Q I 0,U ⟨#[]⟩] 166 (0,0))):=(ZI.block _ rl).trans RB;have R5:Hid (RepSt w0 S mb mp (Y a0 S.n0 c0) (Y a1 S.n1 c1) w w5 making o ZQ V' aq bt f tg nm (b++[⟨name,ZF,ZA⟩]) (Y s b.length r) (Y L (b.length+1) D)):=⟨R4.1.aa ZI ly,R4.2.1.aa ZI ly,R4.2.2.1.to (KX.q ZI ly R4.1.lt),R4.2.2.2⟩
  clear r0 r1 r2 Fd Fm Fk q0 q1 q2 q3 q4 q5 ZI;obtain⟨rl5,r0,r1,r2,ZM⟩:=dG FP;have Fd:=ZM 0;have Fm:=ZM 1;have Fk:=ZM 2;clear ZM;obtain⟨kb,DS⟩:∃kb,kb=decide (¬ x.H=2):=⟨_,rfl⟩
  have Ga:=ae DS;simp only;rw[<-DS];clear DS;go_wp2_with fail;refine bp (v:=ZG #[ZC kb,Q I x.E,U x.y]) (by simp[results,results291,go_sem,r0,r1,r2]) rfl ?_;show vt w0 S mb mp (Y a0 S.n0 c0) (Y a1 S.n1 c1) making made G V w f tg nm name b (Y s b.length r) _ _ (.inl (o,x));refine⟨by rw[Ga.out],ZQ,V',aq,bt,Y L (b.length+1) D,?_,E1⟩;have X0:=R5.set FP.out (by decide) t (JH _) 0 (ZC kb);have X1:=X0.1.set X0.2 (by decide) t (JH _) 1 (Q I x.E);have X2:=X1.1.set X1.2 (by decide) t (JH _) 2 (U x.y);exact X2.1
 focus
  clear ZM M4 U4;go_wp2_with fail;refine bp (v:=ZG #[ZC hb,Q I 0,U ⟨#[]⟩]) (by simp[results,results291,go_sem,r0,r1,r2]) rfl ⟨rfl,Y L (b.length+1) D,?_⟩;have X0:=R4.set RB.out (by decide) t (JH _) 0 (ZC hb);have X1:=X0.1.set X0.2 (by decide) t (JH _) 1 (Q I 0);have X2:=X1.1.set X1.2 (by decide) t (JH _) 2 (U ⟨#[]⟩);exact X2.1
end
theorem A8 (f g cnt cap:Nat)(w:M):Calls Pg 234 #[ZG #[Y (T (N f g Z)) cnt cap]] w λe w'=>∃b,e=ZD (.func (.func 273) #[] #[.pointer (T (N b 0 Z))])/\(B (z w))<=b/\MAt w' b (Y (T (N f g Z)) cnt cap) m0/\(∃h,w'.heap[b]?=T (J h 345 (0,0)))/\Below (B (z w)) w w':=by
 have i:=ae ((BS w).alloc ly (J #[Y (T (N f g Z)) cnt cap] 43));have k0:(w.alloc (J #[Y (T (N f g Z)) cnt cap] 43)).cell? (N (B (z w)) 0 Z)=T (Y (T (N f g Z)) cnt cap):=by simp
 have z0:(w.alloc (J #[Y (T (N f g Z)) cnt cap] 43)).heap.size=B (z w)+1:=by simp
 have l:=ae (Am (w.alloc (J #[Y (T (N f g Z)) cnt cap] 43)) (T (N f g Z)) cnt cap);have j:=ae (by have:=l.out;rw[z0] at this;exact this);have n:=ae (i.alloc i.size (J (fq (Y (T (N f g Z)) cnt cap)) 345));have m:Hid (∃h,((w.alloc (J #[Y (T (N f g Z)) cnt cap] 43)).alloc (J (fq (Y (T (N f g Z)) cnt cap)) 345)).heap[B (z w)+1]?=T (J h 345 (0,0))):=by have h2:=gM (w.alloc (J #[Y (T (N f g Z)) cnt cap] 43)) (J (fq (Y (T (N f g Z)) cnt cap)) 345);rw[z0] at h2;exact⟨_,h2⟩
 go_enter func234,ntmps234
 go_wp2_with (first
  |(refine An rfl 345 #[(1,.tmp 5)] rfl [(1,Y (T (N f g Z)) cnt cap)] (fq (Y (T (N f g Z)) cnt cap)) (by simp[Act.eval]) (EF _ _ _) ?_)
  |(refine wpList_store_row rfl 345 (.tmp 3) (.tmp 6) rfl (B (z w)+1) (fq (Y (T (N f g Z)) cnt cap)) rfl rfl _ _ (by rw[<-z0];exact heap_alloc_last _ _) (infoM.trans (by rw[oD])) (by rw[oD];rfl) (yi _ _ _) ?_;rw[<-z0,World.setRow_alloc_new])
  |fail)
 go_ret;exact⟨_,rfl,by first|(simp;done)|(simp;omega),j,m,n⟩
section
variable {w0 w w':M}{S:Spc}{mb mp:Nat}{s0 s1 mk md:ZB}{cnt nk np:Nat}{F:List UInt8->Option ZB}{ks ps:List ZB}{made:List Ent}{G:ByteArray->Nat}{V:ByteArray->ZB}
theorem MIg.ac{fz:Nat × Nat}(h:MIg w0 S mb mp s0 s1 w cnt F nk ks np ps made G V mk md)(hb:w.heap[b]?=T (J j t fz))(u:ti t)(ZT:B (z w0)<=b)(n:Only b w w'):MIg w0 S mb mp s0 s1 w' cnt F nk ks np ps made G V mk md:=by
 have r:KX (B (z w0)) (λi=>i=b) w w':=KX.of_only n rfl h.lt ZT;obtain⟨ZS,ZR,s,C,y⟩:=u;refine h.kx r (λi o hi p=>n.block i (ag hi) p) (λe=>?_) (λe=>?_) (λk f e=>?_) (λk f e=>?_) λx q=>⟨λe=>?_,λk f e=>?_⟩
 {subst e;exact s (ah hb h.ab)};{obtain⟨es,c,m⟩:=h.map.isMap;rw[e,hb] at m;cases m};{subst e;obtain⟨_,_,j,g⟩:=af h.rmk _ f;exact ZS (ah hb g)};{subst e;obtain⟨_,_,j,g⟩:=af h.W _ f;exact ZR (ah hb g)};{obtain⟨act,l,_⟩:=(h.ao x q).ad;rw[e] at l;exact C (ah hb l)};{subst e;obtain⟨_,_,j,g⟩:=af (h.ao x q).row _ f;exact y (ah hb g)}
theorem EU.ac{j:Nat}{n:List Lk}{v:ZB}{fz:Nat × Nat}(h:EU w0 S w j nm tg G n v made V)(hb:w.heap[b]?=T (J i t fz))(q:ti t)(m:Only b w w'):EU w0 S w' j nm tg G n v made V:=by
 obtain⟨⟨a,cap,f,u⟩,o,g,r,l,has⟩:=h;obtain⟨t1,t2,t3,y,s⟩:=q;refine⟨⟨a,cap,(m.block _ (ag f) λe=>?_).trans f,u⟩,o,bI g λk p=>?_,r,l,has⟩;{subst e;exact y (ah hb f)};{obtain⟨_,x,i,ZS⟩:=af g _ p;exact m.block k x λe=>s (ah hb (e ▸ ZS))}
theorem MIg.entOnly{f:Nat}{fz:Nat × Nat}(h:MIg w0 S mb mp s0 s1 w cnt F nk ks np ps made G V mk md)(hb:w.heap[f]?=T (J j 176 fz))(r:∀x∈made,G x.e≠f)(s:B (z w0)<=f)(m:Only f w w'):MIg w0 S mb mp s0 s1 w' cnt F nk ks np ps made G V mk md:=by
 have q:KX (B (z w0)) (λi=>i=f) w w':=KX.of_only m rfl h.lt s;refine h.kx q (λi o hi n=>m.block i (ag hi) n) (λe=>?_) (λe=>?_) (λk b e=>?_) (λk b e=>?_) λx p=>⟨λe=>r x p e,λk b e=>?_⟩
 {subst e;exact absurd (ah hb h.ab) (by decide)};{obtain⟨es,c,l⟩:=h.map.isMap;rw[e,hb] at l;cases l};{subst e;obtain⟨_,_,j,g⟩:=af h.rmk _ b;exact absurd (ah hb g) (by decide)};{subst e;obtain⟨_,_,j,g⟩:=af h.W _ b;exact absurd (ah hb g) (by decide)};{subst e;obtain⟨_,_,j,g⟩:=af (h.ao x p).row _ b;exact absurd (ah hb g) (by decide)}
end
theorem MAt.ad{m:Mst}(h:MAt w b f m)(hb:w'.heap[b]?=w.heap[b]?)(i:B (z w)<=B (z w')):MAt w' b f m :=
 ⟨lj h.1 i,λj g=>⟨(cq (a:=(N b j Z)) hb).trans (h.2 j g).1,(JK (a:=(N b j Z)) hb).trans (h.2 j g).2⟩⟩
def TB (w:M)(g:Nat)(t:Turn):Prop:=w.heap[g]?=T (J #[ZC t.ak,Q I t.E,U t.y,ZC t.ask,U t.e,Q I t.g] 163 (0,0))
theorem TB.K{t:Turn}(h:TB w g t):g<B (z w)/\A w (N g 0 Z)=T (ZC t.ak)/\A w (N g 1 Z)=T (Q I t.E)/\A w (N g 2 Z)=T (U t.y)/\A w (N g 3 Z)=T (ZC t.ask)/\A w (N g 4 Z)=T (U t.e)/\A w (N g 5 Z)=T (Q I t.g)/\∀j,w.frozen? (N g j Z)=ZA:=by unfold TB at h;refine⟨ag h,?_,?_,?_,?_,?_,?_,λj=>?_⟩;all_goals simp[World.cell?,World.frozen?,h]
theorem TB.put{u:Turn}(h:TB w g u)(t:Turn):TB (gu w g t) g t :=
 au (au (au (au (au (au h (j:=0) _) (j:=1) _) (j:=2) _) (j:=3) _) (j:=4) _) (j:=5) _
theorem TB.ac{t:Turn}(h:TB w g t)(i:Only b w w')(f:g≠b):TB w' g t:=(i.block g (ag h) f).trans h
def ContOk (S:Spc)(tg:Nat)(b:List aB)(H:Halt):Prop:=∀(y:Nat->aB) (n:Nat),b.length<=n->(∀i,i<b.length->y i=yL b i)->dS (S.f1 tg).D (S.f1 tg).m y n H=bT (S.f1 tg).D (S.f1 tg).m y n 2001 0 0 0 []
theorem ContOk.turn{b:List aB}{H:Halt}{m:Mst}(h:ContOk S tg b H)(g:eB m H)(hL:gn b.length H):m.t=dt S tg b:=by rw[<-uj (f:=(S.f1 tg).D) (cnt:=(S.f1 tg).m) (y:=yL b) g hL];exact h (yL b) b.length ly λ_ _=>rfl
theorem ContOk.step{b:List aB}{a:Bool}{s:List ByteArray}{p st:Nat}{g:Halt}{r:aB}(h:ContOk S tg b (.inr (a,nm,s,p,st,(b.length+1))))(j:∀y n,b.length+1<=n->y (b.length+1 - 1)=r->dS (S.f1 tg).D (S.f1 tg).m y n (.inr (a,nm,s,p,st,(b.length+1)))=dS (S.f1 tg).D (S.f1 tg).m y n g):ContOk S tg (b++[r]) g:=by intro y n hn f;rw[eL,D0] at hn f;rw[<-j y n hn (by rw[TM,f _ (AD _),Cu])];exact h y n (by omega) λi hi=>by rw[f i (by omega),yt b r hi]
structure RI (w0:M)(S:Spc)(mb mp:Nat)(s0 s1:ZB)(w:M)(n:Nat)(making:List ByteArray)(eb tg:Nat)(nm:ByteArray)(b:Nat)(cv:ZB)(tb:Nat)(made0:List Ent)(G0:ByteArray->Nat)(V0:ByteArray->ZB)(R0:Out (Turn × List Lk))(wr:M)(ys:List aB)(ls:List Lk)(made:List Ent)(G:ByteArray->Nat)(V:ByteArray->ZB)(mk md v:ZB)(m:Mst)(H:Halt):Prop where
 mi:MI w0 S mb mp s0 s1 wr making making made G V mk md
 pg:PG S making made
 rg:RG S made ys ls
 room:dP S making made (201 - ys.length)
 eu:EU w0 S wr eb nm tg G ls v made V
 ma:MAt wr b cv m
 ty:∃cs,wr.heap[b]?=T (J cs 345 (0,0))
 tb:TB wr tb m.t
 st:eB m H
 lk:gn ys.length H
 co:ContOk S tg ys H
 run:bU S (aQ S n making) tg (201 - ys.length) made ys ls=R0
 le:ys.length<=200
 ext:Ext (B (z w)) made0 made G0 G V0 V
 kx:KX (B (z w0)) (λi=>i=eb) w wr
 vn:∀k,v.ownBlock=T k->B (z w)<=k
def DW (w0:M)(S:Spc)(mb mp:Nat)(s0 s1:ZB)(making:List ByteArray)(made:List Ent)(G:ByteArray->Nat)(V:ByteArray->ZB)(w:M)(f tg:Nat)(nm:ByteArray)(e:Ending)(w':M):Out (Turn × List Lk)->Prop
 |.inl (made',x)=>e=ZD (.tuple #[])/\∃b j l h g,MI w0 S mb mp s0 s1 w' making making made' b j l h/\EntAt w0 S b w' f g ⟨nm,3,x.1.E,x.1.y,tg,x.2⟩/\(∀y∈made',b y.e≠f)/\(∀k,g.ownBlock=T k->B (z w)<=k)/\Ext (B (z w)) made made' G b V j/\KX (B (z w0)) (λi=>i=f) w w'
 |.inr (.inl c)=>∃v,e=.panicked [{ v:=.iface 235 (ZG #[v]),recovered:=ZA }]/\w'.ownsRow (B (z w0)) 9 1 v c.length (bo c)/\Below (B (z w0)) w w'
 |.inr (.inr d)=>e=.panicked [{ v:=.iface 237 (ZG #[U d]),recovered:=ZA }]/\Below (B (z w0)) w w'
section
variable {w0:M}{S:Spc}{a0 a1:Option Addr}{c0 c1 mb mp:Nat}{making:List ByteArray}
theorem Bb (C:Ctx w0 S a0 c0 a1 c1)(n:Nat)(HL:iR w0 S mb mp (Y a0 S.n0 c0) (Y a1 S.n1 c1) n)(o:List Ent)(G0:ByteArray->Nat)(V0:ByteArray->ZB)(F7 Gx:ZB)(w:M)(r tg:Nat)(nm:ByteArray)(Hc:making.length+n=60)(h:MI w0 S mb mp (Y a0 S.n0 c0) (Y a1 S.n1 c1) w making making o G0 V0 F7 Gx)(hp:PG S making o)(Fk:dP S making o 201)(GE:tg<S.n1)(hu:EU w0 S w r nm tg G0 [] (Y Z 0 0) o V0):Calls Pg 267 #[.pointer (T (N mb 0 Z)),.pointer (T (N r 0 Z))] w λe w'=>DW w0 S mb mp (Y a0 S.n0 c0) (Y a1 S.n1 c1) making o G0 V0 w r tg nm e w' (bU S (aQ S n making) tg 201 o [] []):=by
 obtain⟨Gz,hc1,Ha⟩:=bM (C.ok.D tg GE);obtain⟨⟨av,cap,ZI,aq⟩,FV,FM,n8,-,-⟩:=hu;obtain⟨R,ZL,rfl,FK⟩:∃R ZL,av=T (N R ZL Z)/\RowIns w0 R ZL (S.f1 tg).m (S.f1 tg).D:=by
  rcases aq with h|⟨b,off,e,hr⟩
  {omega};{exact⟨b,off,e,hr⟩}
 obtain⟨hel,-,-,-,-,e4,-,-,-,-⟩:=ZI.K;have HU:Hid (EU w0 S w r nm tg G0 [] (Y Z 0 0) o V0):=⟨⟨_,_,ZI,aq⟩,FV,FM,n8,λ_ _ k ZJ=>(by cases ZJ),λ_ hl=>absurd hl nj⟩
 have HM:=ae h;have HP:=ae hp;have HRI:=ae FK;have CC:=ae C;have Hq:=ae HL;have L:B (z w0)<=B (z w):=h.lt;have DS:Hid (∀W b,Below (B (z w0)) w0 W->B (z w0)<=b->Env W b R ZL (S.f1 tg).m (S.f1 tg).D):=λW b hW hb=>⟨FK.aa hW ly,C.tab.aa hW C.tab.1,C.pow.aa hW ly,lj FK.1 hb,lj C.tab.1 hb,lj C.pow.lt hb⟩
 obtain⟨R0,Gg⟩:∃R0,R0=bU S (aQ S n making) tg 201 o [] []:=⟨_,rfl⟩
 rw[<-Gg];have He:=ae Gg;clear h hp FK C HL ZI aq FM n8 Gg;obtain⟨H0,F9⟩:=qa (S.f1 tg).D (S.f1 tg).m 2001 0 0 0 [] (by omega) (by omega);have GM:Hid (Goes (S.f1 tg).D (S.f1 tg).m m0 H0):=.inl ⟨rfl,0,0,0,[],⟨trivial,rfl,by simp,rfl,rfl,rfl,λx hx=>absurd hx nj,by omega,by omega,by omega⟩,F9⟩;have FY:=ae (λy n=>nd (S.f1 tg).D (S.f1 tg).m y n 2001 0 0 0 [] H0 (by omega) rfl F9);clear F9;go_enter func267,ntmps267;go_wp2_with fail;refine(A8 R ZL (S.f1 tg).m cap w).mono ?_;rintro e w1 ⟨b,rfl,hb,GT,Gu,GS⟩;have GP:=ae GT;have G8:=ae Gu;have B1:=ae GS;clear GT Gu GS e4;go_wp2_with fail;refine(wP b R ZL (S.f1 tg).m cap (S.f1 tg).D m0 H0 ⟨ZA,0,⟨#[]⟩⟩ _ GP (DS _ _ (HM.X.trans (B1.mono L)) (nD L hb)) rfl (by omega) Gz GM).mono ?_;rintro e w2 ⟨m1,rfl,GQ,GU,qr⟩;have GA:=ae GQ;have GO:=ae GU;have O2:=ae qr;have GF:Hid (∃D,w2.heap[b]?=T (J D 345 (0,0))):=by obtain⟨D,ZT⟩:=G8.out;exact qr.ty D _ _ ZT
 have Hj:B (z w1)<=B (z w2):=qr.size;have B2:=ae (B1.trans (qr.aa hb B1.size));clear GQ GU qr;simp only[Turn.v];obtain⟨W3,Bk⟩:∃W:M,w2.alloc (J #[ZC m1.t.ak,Q I m1.t.E,U m1.t.y,ZC m1.t.ask,U m1.t.e,Q I m1.t.g] 163)=W:=⟨_,rfl⟩
 obtain⟨A3,-,-⟩:=nb1 Bk;have DE:=ae Bk;clear Bk;have Gs:Hid (TB W3 (B (z w2)) m1.t):=by rw[<-DE.out];exact gM _ _
 have DQ:b<B (z w2):=GA.lt;go_wp2;rw[DE.out];clear DE;obtain⟨tb,GW⟩:∃tb,tb=B (z w2):=⟨_,rfl⟩
 rw[<-GW] at Gs ⊢;have FZ:B (z w)<=tb:=by have:=B2.size;omega
 have hbtb:b<tb:=by omega
 have B3:=ae (B2.trans (A3.mono B2.size));have GK:Hid (RI w0 S mb mp (Y a0 S.n0 c0) (Y a1 S.n1 c1) w n making r tg nm b (Y (T (N R ZL Z)) (S.f1 tg).m cap) tb o G0 V0 R0 W3 [] [] o G0 V0 F7 Gx (Y Z 0 0) m1 H0) :=
  ⟨HM.aa B3 ly,HP,lG S o,Fk,HU.aa B3 ly,GA.aa A3 DQ,(by obtain⟨D,ZT⟩:=GF.out;exact⟨D,(A3.block b DQ).trans ZT⟩),Gs,GO,(FY (yL []) 0).2,λy n _ _=>(FY y n).1.symm,He.symm,IH _,Ext.refl _ _ _ _,KX.q B3 ly L,λk ZJ=>(by cases ZJ)⟩
 clear GW Gs A3 B2 GP G8 GA GF GO O2 GM FY B1 HM HU Fk HP B3 Hj DQ;go_loopg [] 202 (λg wr=>∃p ZK made G V mk md v m H,Hid (RI w0 S mb mp (Y a0 S.n0 c0) (Y a1 S.n1 c1) w n making r tg nm b (Y (T (N R ZL Z)) (S.f1 tg).m cap) tb o G0 V0 R0 wr p ZK made G V mk md v m H)/\201 - p.length<=g);case atStart=>exact⟨[],[],o,G0,V0,F7,Gx,_,m1,H0,GK,by simp⟩
 case round =>
  clear GK;obtain⟨p,ZK,made,G,V,mk,md,v,m,H,f,hg⟩:=hrel;have HT:=ae (f.co.turn f.st f.lk);obtain⟨tbl,t0,t1,t2,t3,t4,t5,tf⟩:=f.tb.K;obtain⟨Gb,Gy,Gr,Ge,Gn,GC⟩:=al6 tf;clear tf;have hbw:B (z w)<=b:=hb;have GL:r≠b:=by omega
  have P:r≠tb:=by omega
  cases ho:m.t.ak with
  |true =>
   rw[ho] at t0;have Hn:Hid (R0=.inl (made,(m.t,ZK))):=by show _=_;rw[<-f.run,show 201 - p.length=(200 - p.length)+1 by have:=f.le;omega,bU,<-HT.out,nL ho]
   obtain⟨⟨ax,cx,ZI,aq⟩,-⟩:=f.eu;obtain⟨hel2,-,-,e2,e3,-,-,-,-,ef⟩:=ZI.K;have ef2:=ef 2;have ef3:=ef 3;have FW:=ae ZI;have Hi:=ae aq;clear ZI aq ef;obtain⟨code,bt⟩:∃code,code=m.t.E:=⟨_,rfl⟩
   obtain⟨text,ex⟩:∃text,text=m.t.y:=⟨_,rfl⟩
   rw[<-bt] at t1;rw[<-ex] at t2;have HC:=ae bt;have HX:=ae ex;clear bt ex;go_wp2_with fail;clear t0 t3 t4 t5 Gb Gy Gr Ge Gn GC;refine wp_region_held_drew (S:=λV=>A V (N tb 1 Z)=T (Q I code)/\A V (N tb 2 Z)=T (U text)) (by as_aux_lemma=>kernel_rfl) ⟨t1,t2⟩ λhS=>?_;have HS:=ae hS;clear hS;iterate 9
    first|refine aR 0 (v:=?_) rfl rfl (by as_aux_lemma=>kernel_rfl) (λ_ _ _ h=>h) rfl ?_ HS ?_|refine aR 4 (v:=?_) rfl rfl (by as_aux_lemma=>kernel_rfl) (λ_ _ _ h=>h) rfl ?_ HS ?_
    rotate_left
    ·(rintro wz ⟨s0,s1⟩;go_simp)
     (try with_reducible rfl)
    (try simp only[Act.put,nzL])
   have S5:Hid ((wr.drew.setCell (N r 2 Z) (Q I code)).cell? (N tb 1 Z)=T (Q I code)/\(wr.drew.setCell (N r 2 Z) (Q I code)).cell? (N tb 2 Z)=T (U text)):=⟨(cell_far _ _ _ _ P).trans HS.1,(cell_far _ _ _ _ P).trans HS.2⟩
   refine aI (i:=9) rfl (by as_aux_lemma=>kernel_rfl) λK hK=>?_;go_simp;refine hK _ _ S5 ?_;clear hK K HS
   (try simp only[Act.put,nzL])
   have HS:=S5;iterate 3
    refine aR 10 (v:=?_) rfl rfl (by as_aux_lemma=>kernel_rfl) (λ_ _ _ h=>h) rfl ?_ HS ?_;rotate_left
    ·(rintro wz ⟨s0,s1⟩;go_simp)
     (try with_reducible rfl)
    (try simp only[Act.put,nzL])
   have S6:Hid (((wr.drew.setCell (N r 2 Z) (Q I code)).setCell (N r 3 Z) (U text)).cell? (N tb 1 Z)=T (Q I code)/\((wr.drew.setCell (N r 2 Z) (Q I code)).setCell (N r 3 Z) (U text)).cell? (N tb 2 Z)=T (U text)):=⟨(cell_far _ _ _ _ P).trans S5.1,(cell_far _ _ _ _ P).trans S5.2⟩
   refine aI (i:=13) rfl (by as_aux_lemma=>kernel_rfl) λK hK=>?_;go_simp;refine hK _ _ S6 ?_;clear hK K
   (try simp only[Act.put,nzL])
   refine wpAnyH_done (by as_aux_lemma=>kernel_rfl) ?_ _;have OE:Hid (Only r wr ((wr.setCell (N r 2 Z) (Q I code)).setCell (N r 3 Z) (U text)).drew):=(bO (bO (Only.refl r wr) 2 _) 3 _).drew;have GH:Hid (EntBlk ((wr.setCell (N r 2 Z) (Q I code)).setCell (N r 3 Z) (U text)).drew r nm 3 code text (Y ax (S.f1 tg).m cx) v 0):=au (au FW (j:=2) _) (j:=3) _;generalize World.drew (World.setCell (World.setCell wr _ _) _ _)=W6 at OE GH ⊢;go_end0;rw[Hn.out];refine⟨rfl,G,V,mk,md,v,f.mi.entOnly FW f.eu.free FV OE,⟨⟨_,by rw[<-HC.out,<-HX.out];exact GH,by rw[oI,nL rfl];exact⟨GE,_,_,rfl,Hi⟩⟩,FV,bI f.eu.row λk ZJ=>?_⟩,f.eu.free,f.vn,f.ext,f.kx.trans (KX.of_only (X:=λi=>i=r) OE rfl f.mi.lt FV) (λ_ _ h=>h)⟩;obtain⟨_,hl,D,ZT⟩:=af f.eu.row k ZJ;exact OE.block k hl λe=>absurd (ah FW (e ▸ ZT)) (by decide)
  |false =>
   obtain⟨a,s,s2,pp,st,l,rfl⟩:=uk f.st ho;have el:l=p.length+1:=f.lk;subst el;obtain⟨Fm,At,Gm,-⟩:=f.st;have hylt:p.length<200:=by have:=At.lk;omega
   have GN:=ae Fm;rw[Fm] at t0 t1 t2 t3 t4 t5;simp only at t0 t1 t2 t3 t4 t5;have HSM:=ae At;have FO:=ae Gm;have GV:Hid (dt S tg p=⟨ZA,0,⟨#[]⟩,a,s,st⟩):=HT.symm.trans Fm;have GY:ZK.length<=200:=by have:=f.rg.len;omega
   clear Fm At Gm;have FU:Hid (∀k,v.ownBlock=T k->k≠b/\k≠tb):=λk ZJ=>by obtain⟨_,_,D,ZT⟩:=af f.eu.row k ZJ;obtain⟨cs2,Ha⟩:=f.ty;exact⟨λe=>absurd (ah Ha (e ▸ ZT)) (by decide),λe=>absurd (ah (show wr.heap[tb]?=_ from f.tb) (e ▸ ZT)) (by decide)⟩
   cases a with
   |false =>
    go_wp2_with fail;clear t0 t1 t2 t3 t4 t5 Gb Gy Gr Ge Gn GC;refine(qt.1 CC wr r tg nm ZK v ⟨ZA,0,⟨#[]⟩,ZA,s,st⟩ f.mi f.eu GY rfl).mono ?_;rintro e w3 ⟨rfl,v',mv⟩;have E:=ae mv;clear mv;obtain⟨ZQ,Fd⟩:∃ZQ,ZQ=ft S s:=⟨_,rfl⟩
    have GJ:=ae Fd;simp only at E ⊢;rw[<-Fd] at E ⊢;clear Fd;have NX:Hid (bU S (aQ S n making) tg (200 - p.length) made (p++[⟨ZQ,0,⟨#[]⟩⟩]) (ZK++[⟨s,ZA,ZQ⟩])=R0):=by show _=_;have:=f.run;rw[show 201 - p.length=(200 - p.length)+1 by omega,bU,GV.out,eT (by simp),nL rfl,<-GJ.out] at this;exact this
    have FX:=ae f.pg;have sm:Hid (RG S made (p++[⟨ZQ,0,⟨#[]⟩⟩]) (ZK++[⟨s,ZA,ZQ⟩])):=f.rg.add (by rw[GJ.out];exact pq _ _) FO (λh=>by cases h);have F8:Hid (dP S making made (200 - p.length)):=by have:=f.room;unfold dP at this ⊢;show _<=_;omega
    have Ga:=ae f.ext;have ro:Hid ((⟨ZQ,0,⟨#[]⟩⟩:aB).y.size<=2000):=IH _;have BK:Hid (w3.heap[b]?=wr.heap[b]?):=by obtain⟨D,ZT⟩:=f.ty;exact E.2.2.1.ad b _ _ _ ZT (by decide) (by decide) (by decide) λh=>by rcases h with h|h;exact GL h.symm;exact(FU b h).1 rfl
    have TK:Hid (TB w3 tb ⟨ZA,0,⟨#[]⟩,ZA,s,st⟩):=by have h0:=f.tb;rw[GN.out] at h0;exact(E.2.2.1.ad tb _ _ _ h0 (by decide) (by decide) (by decide) λh=>by rcases h with h|h;exact P h.symm;exact(FU tb h).2 rfl).trans h0
    have CD:B (z wr)<=B (z w3):=E.2.2.1.aa.size;have Gf:=ae (f.ma.ad BK CD);have Gh:Hid (∃D,w3.heap[b]?=T (J D 345 (0,0))):=by obtain⟨D,ZT⟩:=f.ty;exact⟨D,BK.trans ZT⟩
    go_wp2_with fail;refine(qb b R ZL (S.f1 tg).m cap (S.f1 tg).D m ZA s s2 pp st (p.length+1) ⟨ZQ,0,⟨#[]⟩⟩ _ Gf (DS _ _ E.1.X (nD L hb)) f.st (by omega) ro (by omega) Gz).mono ?_;rintro e w4 ⟨ZN,H2,rfl,fd,th,ld,ur,ZS⟩;have Gw:=ae fd;have Gj:=ae th;have Gv:=ae ld;have F3:=ae (f.co.step ur);have O4:=ae ZS;obtain⟨Hf,ZO⟩:=Gh.out;have n9:=ae (E.1.ac ZO (by decide) (nD L hb) ZS);have F0:=ae (E.2.1.ac ZO (by decide) ZS);have ZM:=ae (TK.ac ZS (by omega));have Gt:=ae (ZS.ty _ _ _ ZO);have K4:=ae ((f.kx.trans E.2.2.1 (λi hi h=>by rcases h with h|h;exact h;exact absurd (f.vn i h) (by omega))).trans (KX.of_only (X:=λi=>i=b) ZS rfl E.1.lt (nD L hb)) (λi hi h=>by have e2:i=b:=h;omega));have Gq:Hid (∀k,v'.ownBlock=T k->B (z w)<=k):=λk ZJ=>by
     rcases E.2.2.2 k ZJ with h|h;{exact f.vn k h};{exact nD f.kx.aa.size h}
    clear fd th ld ur ZS ZO;obtain⟨ul,u0,u1,u2,u3,u4,u5,uf⟩:=ZM.K;obtain⟨Hg,Hd,Hm,Hk,Ho,Hl⟩:=al6 uf;clear uf;obtain⟨g,rfl⟩:∃g,gk=g+1:=⟨gk - 1,by omega⟩
    have Gi:=ae (ZM.put ZN.t);have OP:Hid (Only tb w4 (gu w4 tb ZN.t)):=sK ZN.t;have ph:B (z w0)<=tb:=nD L FZ;have q:(p++[(⟨ZQ,0,⟨#[]⟩⟩:aB)]).length=p.length+1:=by simp
    have Gp:Hid (RI w0 S mb mp (Y a0 S.n0 c0) (Y a1 S.n1 c1) w n making r tg nm b (Y (T (N R ZL Z)) (S.f1 tg).m cap) tb o G0 V0 R0 (gu w4 tb ZN.t) (p++[⟨ZQ,0,⟨#[]⟩⟩]) (ZK++[⟨s,ZA,ZQ⟩]) made G V mk md v' ZN H2) :=
     ⟨n9.ac ZM (by decide) ph OP,FX,sm,(by rw[q,show 201 - (p.length+1)=200 - p.length by omega];exact F8),F0.ac ZM (by decide) OP,Gw.boxed (by omega) ZN.t,(by obtain⟨D,ZT⟩:=Gt.out;exact⟨D,(OP.block b (ag ZT) (by omega)).trans ZT⟩),Gi,Gj,(by rw[q];exact Gv),F3,(by rw[q,show 201 - (p.length+1)=200 - p.length by omega];exact NX),(by rw[q];omega),Ga,K4.trans (KX.of_only (X:=λi=>i=tb) OP rfl n9.lt ph) (λi hi h=>by have e2:i=tb:=h;omega),Gq⟩
    simp only[Turn.v];go_wp2;go_roundg g;case measure=>omega
    case rel=>exact⟨_,_,_,_,_,_,_,_,_,_,Gp,by rw[q];omega⟩
   |true =>
    go_wp2_with fail;clear t0 t1 t2 t3 t4 t5 Gb Gy Gr Ge Gn GC;refine(qt.2 CC n Hq wr r tg nm ZK v ⟨ZA,0,⟨#[]⟩,ZF,s,st⟩ Hc f.mi f.pg (by have:=f.room;unfold dP at this ⊢;omega) f.eu GY rfl FO).mono ?_;intro e w3 ZP;simp only at ZP;have ZR:=f.run;rw[show 201 - p.length=(200 - p.length)+1 by omega,bU,GV.out,eT (by simp),eT (by simp)] at ZR;simp only at ZR;rcases hr:aQ S n making made s with ⟨O,x⟩|c|d
    ·rw[hr] at ZP ZR;dsimp only at ZR;obtain⟨rfl,G2,V2,Hh,Hp,v',mv,Gl⟩:=ZP;obtain⟨FP,-,hx,GI⟩:=ey CC.ok n making made s O x f.pg FO hr;have FQ:=fS S n making made s O x hr;have E:=ae mv;have NX:=ae ZR;have FX:=ae FP;have Gc:hZ x=⟨decide (¬ x.H=2),x.E,x.y⟩:=rfl;have sm:Hid (RG S O (p++[hZ x]) (ZK++[⟨s,ZF,ZA⟩])):=(f.rg.mono Gl.mem).add (pr (FP.ao x hx)) FO (λ_=>⟨x,hx,GI⟩);have F8:Hid (dP S making O (200 - p.length)):=by have:=f.room;unfold dP at this ⊢;unfold eV at FQ;show _<=_;omega
     have Ga:=ae (f.ext.trans Gl f.kx.aa.size);have ro:Hid ((hZ x).y.size<=2000):=(FP.ao x hx).tx;rw[Gc] at NX sm ro;clear mv ZR FP hx GI FQ Gl hr Gc;obtain⟨kb,Hb⟩:∃kb,kb=decide (¬ x.H=2):=⟨_,rfl⟩
     rw[<-Hb] at NX sm ro ⊢;clear Hb;have BK:Hid (w3.heap[b]?=wr.heap[b]?):=by obtain⟨D,ZT⟩:=f.ty;exact E.2.2.1.ad b _ _ _ ZT (by decide) (by decide) (by decide) λh=>by rcases h with h|h;exact GL h.symm;exact(FU b h).1 rfl
     have TK:Hid (TB w3 tb ⟨ZA,0,⟨#[]⟩,ZF,s,st⟩):=by have h0:=f.tb;rw[GN.out] at h0;exact(E.2.2.1.ad tb _ _ _ h0 (by decide) (by decide) (by decide) λh=>by rcases h with h|h;exact P h.symm;exact(FU tb h).2 rfl).trans h0
     have CD:B (z wr)<=B (z w3):=E.2.2.1.aa.size;have Gf:=ae (f.ma.ad BK CD);have Gh:Hid (∃D,w3.heap[b]?=T (J D 345 (0,0))):=by obtain⟨D,ZT⟩:=f.ty;exact⟨D,BK.trans ZT⟩
     go_wp2_with fail;refine(qb b R ZL (S.f1 tg).m cap (S.f1 tg).D m ZF s s2 pp st (p.length+1) ⟨kb,x.E,x.y⟩ _ Gf (DS _ _ E.1.X (nD L hb)) f.st (by omega) ro (by omega) Gz).mono ?_;rintro e w4 ⟨ZN,H2,rfl,fd,th,ld,ur,ZS⟩;have Gw:=ae fd;have Gj:=ae th;have Gv:=ae ld;have F3:=ae (f.co.step ur);have O4:=ae ZS;obtain⟨Hf,ZO⟩:=Gh.out;have n9:=ae (E.1.ac ZO (by decide) (nD L hb) ZS);have F0:=ae (E.2.1.ac ZO (by decide) ZS);have ZM:=ae (TK.ac ZS (by omega));have Gt:=ae (ZS.ty _ _ _ ZO);have K4:=ae ((f.kx.trans E.2.2.1 (λi hi h=>by rcases h with h|h;exact h;exact absurd (f.vn i h) (by omega))).trans (KX.of_only (X:=λi=>i=b) ZS rfl E.1.lt (nD L hb)) (λi hi h=>by have e2:i=b:=h;omega));have Gq:Hid (∀k,v'.ownBlock=T k->B (z w)<=k):=λk ZJ=>by
      rcases E.2.2.2 k ZJ with h|h;{exact f.vn k h};{exact nD f.kx.aa.size h}
     clear fd th ld ur ZS ZO;obtain⟨ul,u0,u1,u2,u3,u4,u5,uf⟩:=ZM.K;obtain⟨Hg,Hd,Hm,Hk,Ho,Hl⟩:=al6 uf;clear uf;obtain⟨g,rfl⟩:∃g,gk=g+1:=⟨gk - 1,by omega⟩
     have Gi:=ae (ZM.put ZN.t);have OP:Hid (Only tb w4 (gu w4 tb ZN.t)):=sK ZN.t;have ph:B (z w0)<=tb:=nD L FZ;have q:(p++[(⟨kb,x.E,x.y⟩:aB)]).length=p.length+1:=by simp
     have Gp:Hid (RI w0 S mb mp (Y a0 S.n0 c0) (Y a1 S.n1 c1) w n making r tg nm b (Y (T (N R ZL Z)) (S.f1 tg).m cap) tb o G0 V0 R0 (gu w4 tb ZN.t) (p++[⟨kb,x.E,x.y⟩]) (ZK++[⟨s,ZF,ZA⟩]) O G2 V2 Hh Hp v' ZN H2) :=
      ⟨n9.ac ZM (by decide) ph OP,FX,sm,(by rw[q,show 201 - (p.length+1)=200 - p.length by omega];exact F8),F0.ac ZM (by decide) OP,Gw.boxed (by omega) ZN.t,(by obtain⟨D,ZT⟩:=Gt.out;exact⟨D,(OP.block b (ag ZT) (by omega)).trans ZT⟩),Gi,Gj,(by rw[q];exact Gv),F3,(by rw[q,show 201 - (p.length+1)=200 - p.length by omega];exact NX),(by rw[q];omega),Ga,K4.trans (KX.of_only (X:=λi=>i=tb) OP rfl n9.lt ph) (λi hi h=>by have e2:i=tb:=h;omega),Gq⟩
     simp only[Turn.v];go_wp2;go_roundg g;case measure=>omega
     case rel=>exact⟨_,_,_,_,_,_,_,_,_,_,Gp,by rw[q];omega⟩
    {rw[hr] at ZP ZR;obtain⟨u,rfl,h1,h2⟩:=ZP;subst ZR;go_wp2_with fail;exact⟨rfl,u,rfl,h1,f.kx.aa.trans h2⟩};{rw[hr] at ZP ZR;obtain⟨rfl,h2⟩:=ZP;subst ZR;go_wp2_with fail;exact⟨rfl,rfl,f.kx.aa.trans h2⟩}
end
structure KS (ZR:Nat)(X:Nat->Prop)(w w':M):Prop where
 aa:Below ZR w w'
 ad:∀i cs t fz,w.heap[i]?=T (J cs t fz)->t≠9->t≠198->t≠117->¬ X i->w'.heap[i]?=w.heap[i]?
theorem KS.trans{ZI:Nat->Prop}{b:M}(h:KS ZR X w w')(k:KS ZR ZI w' b)(j:∀i,i<B (z w)->ZI i->X i):KS ZR X w b :=
 ⟨h.aa.trans k.aa,λi f t fz hi h1 h2 g hX=>by
  have e:=h.ad i f t fz hi h1 h2 g hX;rw[<-e]
  exact k.ad i f t fz (e.trans hi) h1 h2 g λl=>hX (j i (ag hi) l)⟩
theorem KS.to{b:M}(h:KS ZR X w w')(k:KS ZR XN w' b):KS ZR X w b:=h.trans k λ_ _ h=>h.elim
theorem KS.q (h:Below C w w')(b:B (z w)<=C)(f:ZR<=B (z w)):KS ZR X w w' :=
 ⟨h.mono (nD f b),λi _ _ _ hi _ _ _ _=>h.block i (lj (ag hi) b)⟩
theorem KS.of_grown{row:Option Nat}(h:w.grownBy w' row)(n:ZR<=B (z w))(g:∀j,row=T j->ZR<=j/\(X j∨∀b t fz,w.heap[j]?=T (J b t fz)->t=9∨t=198∨t=117)):KS ZR X w w':=by
 refine⟨⟨h.os,h.tape,h.output,h.size,λk l=>h.block k (lj l n) λe=>?_⟩,λi b t fz hi h1 h2 m hX=>h.block i (ag hi) λe=>?_⟩;{have:=(g k e.symm).1;omega};{rcases(g i e.symm).2 with f|f;{exact hX f};{rcases f b t fz hi with e|e|e;{exact h1 e};{exact h2 e};{exact m e}}}
theorem KS.setCell (w:M){j:Nat}(hb:ZR<=b)(f:X b∨∀g t fz,w.heap[b]?=T (J g t fz)->t=9∨t=198∨t=117)(v:ZB):KS ZR X w (w.setCell (N b j Z) v):=by
 refine⟨(cM ZR w).setCell hb v,λi g t fz hi h1 h2 h hX=>?_⟩;refine qh _ _ _ _ λe=>?_;simp at e;subst e;rcases f with f|f;{exact hX f};{rcases f g t fz hi with e|e|e;{exact h1 e};{exact h2 e};{exact h e}}
def ShBox (w:M)(hb:Nat)(s0 s1 md or st:ZB)(g:Int)(sx:ByteArray)(f:ZB)(b:Bool):Prop:=w.heap[hb]?=T (J #[s0,s1,md,or,st,Q I g,U sx,f,ZC b] 117 (0,0))
theorem ShBox.K{st:ZB}{g:Int}{b:Bool}(h:ShBox w hb s0 s1 md or st g sx f b):hb<B (z w)/\A w (N hb 0 Z)=T s0/\A w (N hb 1 Z)=T s1/\A w (N hb 2 Z)=T md/\A w (N hb 3 Z)=T or/\A w (N hb 4 Z)=T st/\A w (N hb 5 Z)=T (Q I g)/\A w (N hb 6 Z)=T (U sx)/\A w (N hb 7 Z)=T f/\A w (N hb 8 Z)=T (ZC b)/\∀j,w.frozen? (N hb j Z)=ZA:=by unfold ShBox at h;refine⟨ag h,?_,?_,?_,?_,?_,?_,?_,?_,?_,λj=>?_⟩;all_goals simp[World.cell?,World.frozen?,h]
theorem ShBox.ad{st:ZB}{g:Int}{b:Bool}(h:ShBox w hb s0 s1 md or st g sx f b)(i:w'.heap[hb]?=w.heap[hb]?):ShBox w' hb s0 s1 md or st g sx f b:=i.trans h
structure SM where
 e:ByteArray
 E:Int
 y:ByteArray
 V:List Lk
 sv:ZB
 done:Bool
def smV (m:SM):List ZB:=[U m.e,Q I m.E,U m.y,Y Z 0 0,m.sv,ZC m.done]
def dJ (b:List Lk):List ZB:=b.flatMap λl=>[U l.e,ZC l.ask,ZC l.has]
def fI (L:List SM)(t:ByteArray):Option Nat:=L.findIdx? λm=>m.e.toList == t.toList
structure eK (L:List SM)(making:List ByteArray)(made:List Ent):Prop where
 nod:L.Pairwise λm m'=>m.e≠m'.e
 len:L.length=made.length+making.length
 got:∀x∈made,∃m∈L,m.e=x.e/\m.done=ZF/\m.E=(cI x).E/\m.y=(cI x).y/\m.V=x.looks
 mkg:∀t∈making,∃m∈L,m.e=t/\m.done=ZA
 all:∀m∈L,(∃x∈made,x.e=m.e)∨m.e∈making
structure SI (w0:M)(hb:Nat)(s0 s1:ZB)(w:M)(making:List ByteArray)(made:List Ent)(L:List SM)(md or st:ZB):Prop where
 X:Below (B (z w0)) w0 w
 hbB:B (z w0)<=hb
 ab:ShBox w hb s0 s1 md or st 0 ⟨#[]⟩ (Y Z 0 0) ZA
 W:w.ownsRow (B (z w0)) 198 6 md L.length (L.flatMap smV)
 ror:w.ownsRow (B (z w0)) 9 1 or made.length (bo (made.map (·.e)))
 rst:w.ownsRow (B (z w0)) 9 1 st making.length (bo making)
 apart:∀k,or.ownBlock=T k->st.ownBlock≠T k
 V:∀m∈L,m.done=ZF->w.ownsRow (B (z w0)) 201 3 m.sv m.V.length (dJ m.V)
section
variable {w0 w w':M}{hb:Nat}{s0 s1 md or st:ZB}{making:List ByteArray}{made:List Ent}{L:List SM}
theorem SI.lt (h:SI w0 hb s0 s1 w making made L md or st):B (z w0)<=B (z w):=h.X.size
theorem SI.aa (h:SI w0 hb s0 s1 w making made L md or st)(b:Below C w w')(f:B (z w)<=C):SI w0 hb s0 s1 w' making made L md or st :=
 ⟨h.X.trans (b.mono (nD h.lt f)),h.hbB,h.ab.ad (b.block _ (lj (ag h.ab) f)),own_below h.W b f,own_below h.ror b f,own_below h.rst b f,h.apart,λm g i=>own_below (h.V m g i) b f⟩
end
def dD:Option Nat->Int
 |some i=>(i:Int)
 |none=>-1
theorem gR (g:Nat->ByteArray)(n:Nat)(t:ByteArray):aF g n t=(atI g n t).isSome:=by unfold aF atI;rw[KU,List.find?_isSome,OT]
theorem tj{g:Nat->ByteArray}{t:ByteArray}(h:aF g n t=ZA):atI g n t=Z:=by rw[gR] at h;exact Option.isNone_iff_eq_none.1 (by simpa using h)
theorem qu{g:Nat->ByteArray}{k:Nat}{t:ByteArray}(f:k<n)(h1:((g k).toList == t.toList)=ZF)(h2:aF g k t=ZA):atI g n t=T k:=by
 unfold atI;rw[List.find?_range_eq_some];refine⟨h1,J4.2 f,λj b=>?_⟩;cases e:((g j).toList == t.toList) with
 |false=>rfl
 |true =>rw[dM b e] at h2;cases h2
theorem pB (b off n0 c0:Nat)(a1:Option Addr)(n1 c1:Nat)(f:Nat->Source)(t:ByteArray)(w:M)(hn:(n0:Int)<=1048576)(p:RowSource w b off n0 f):Calls Pg 51 #[ZG #[Y (T (N b off Z)) n0 c0,Y a1 n1 c1],U t] w λe w'=>e=ZD (Q I (dD (atI (nm0 f) n0 t)))/\Below (B (z w)) w w':=by
 obtain⟨W,g⟩:∃W:M,w.alloc (J #[Y (T (N b off Z)) n0 c0,Y a1 n1 c1] 27)=W:=⟨_,rfl⟩
 obtain⟨l,-,-⟩:=nb1 g;have h:=ae g;clear g;have q:=ae (p.aa l ly);have k1:A W (N (B (z w)) 0 Z)=T (Y (T (N b off Z)) n0 c0):=by rw[<-h.out];simp
 clear p;obtain⟨R,hR⟩:∃R,R=dD (atI (nm0 f) n0 t):=⟨_,rfl⟩
 rw[<-hR];have o:=ae hR;clear hR;go_enter RF,QD;go_wp2;rw[h.out];clear h;go_loop [5] (λi=>∃k:Nat,k<=n0/\i=Q I k/\Hid (aF (nm0 f) k t=ZA)) (λi=>n0 - (intOf i).toNat);case atStart=>exact⟨0,by omega,rfl,rfl⟩
 case round =>
  obtain⟨k,hk,rfl,m⟩:=hrel;by_cases j:k<n0
  ·obtain⟨d0,d1⟩:=q.2 k j;cases hb:((f k).e.toList == t.toList) with
   |true =>have n:=ae hb;go_wp2;go_ret;exact⟨by rw[o.out,qu j n.out m.out];rfl,l⟩
   |false =>have n:=ae hb;go_wp2;exact⟨⟨k+1,by omega,by go_num,by show aF (nm0 f) (k+1) t=ZA;rw[fA,m.out];exact n⟩,by simp[intOf];omega⟩
  ·have e:k=n0:=by omega
   subst e;go_wp2;go_ret;exact⟨by rw[o.out,tj m.out];rfl,l⟩
theorem pC (a0:Option Addr)(c0:Nat)(a1:Option Addr)(n1 c1:Nat)(t:ByteArray)(w:M):Calls Pg 51 #[ZG #[Y a0 0 c0,Y a1 n1 c1],U t] w λe w'=>e=ZD (Q I (-1))/\Below (B (z w)) w w':=by
 have b:=ae ((BS w).alloc ly (J #[Y a0 0 c0,Y a1 n1 c1] 27));go_enter RF,QD;go_wp2;go_loop [5] (λi=>i=Q I 0) (λ_=>0);case atStart=>rfl
 case round =>subst hrel;go_wp2;go_ret;exact⟨rfl,b⟩
theorem gH (a0:Option Addr)(n0 c0:Nat)(a1:Option Addr)(n1 c1:Nat)(f:Nat->Source)(t:ByteArray)(w:M)(hn:(n0:Int)<=1048576)(g:SlSource w a0 n0 f):Calls Pg 51 #[ZG #[Y a0 n0 c0,Y a1 n1 c1],U t] w λe w'=>e=ZD (Q I (dD (atI (nm0 f) n0 t)))/\Below (B (z w)) w w':=by
 rcases g with rfl|⟨b,off,rfl,h⟩
 {exact pC a0 c0 a1 n1 c1 t w};{exact pB b off n0 c0 a1 n1 c1 f t w hn h}
theorem pD (a0:Option Addr)(n0 c0 b off n1 c1:Nat)(f:Nat->Target)(t:ByteArray)(w:M)(hn:(n1:Int)<=1048576)(p:RowTarget w b off n1 f):Calls Pg 52 #[ZG #[Y a0 n0 c0,Y (T (N b off Z)) n1 c1],U t] w λe w'=>e=ZD (Q I (dD (atI (nm1 f) n1 t)))/\Below (B (z w)) w w':=by
 obtain⟨W,g⟩:∃W:M,w.alloc (J #[Y a0 n0 c0,Y (T (N b off Z)) n1 c1] 27)=W:=⟨_,rfl⟩
 obtain⟨l,-,-⟩:=nb1 g;have h:=ae g;clear g;have q:=ae (p.aa l ly);have k1:A W (N (B (z w)) 1 Z)=T (Y (T (N b off Z)) n1 c1):=by rw[<-h.out];simp
 clear p;obtain⟨R,hR⟩:∃R,R=dD (atI (nm1 f) n1 t):=⟨_,rfl⟩
 rw[<-hR];have o:=ae hR;clear hR;go_enter RC,QC;go_wp2;rw[h.out];clear h;go_loop [5] (λi=>∃k:Nat,k<=n1/\i=Q I k/\Hid (aF (nm1 f) k t=ZA)) (λi=>n1 - (intOf i).toNat);case atStart=>exact⟨0,by omega,rfl,rfl⟩
 case round =>
  obtain⟨k,hk,rfl,m⟩:=hrel;by_cases j:k<n1
  ·obtain⟨d0,ka,kc,d1,_⟩:=q.2 k j;cases hb:((f k).e.toList == t.toList) with
   |true =>have n:=ae hb;go_wp2;go_ret;exact⟨by rw[o.out,qu j n.out m.out];rfl,l⟩
   |false =>have n:=ae hb;go_wp2;exact⟨⟨k+1,by omega,by go_num,by show aF (nm1 f) (k+1) t=ZA;rw[fA,m.out];exact n⟩,by simp[intOf];omega⟩
  ·have e:k=n1:=by omega
   subst e;go_wp2;go_ret;exact⟨by rw[o.out,tj m.out];rfl,l⟩
theorem pE (a0:Option Addr)(n0 c0:Nat)(a1:Option Addr)(c1:Nat)(t:ByteArray)(w:M):Calls Pg 52 #[ZG #[Y a0 n0 c0,Y a1 0 c1],U t] w λe w'=>e=ZD (Q I (-1))/\Below (B (z w)) w w':=by
 have b:=ae ((BS w).alloc ly (J #[Y a0 n0 c0,Y a1 0 c1] 27));go_enter RC,QC;go_wp2;go_loop [5] (λi=>i=Q I 0) (λ_=>0);case atStart=>rfl
 case round =>subst hrel;go_wp2;go_ret;exact⟨rfl,b⟩
theorem gI (a0:Option Addr)(n0 c0:Nat)(a1:Option Addr)(n1 c1:Nat)(f:Nat->Target)(t:ByteArray)(w:M)(hn:(n1:Int)<=1048576)(g:SlTarget w a1 n1 f):Calls Pg 52 #[ZG #[Y a0 n0 c0,Y a1 n1 c1],U t] w λe w'=>e=ZD (Q I (dD (atI (nm1 f) n1 t)))/\Below (B (z w)) w w':=by
 rcases g with rfl|⟨b,off,rfl,h⟩
 {exact pE a0 n0 c0 a1 c1 t w};{exact pD a0 n0 c0 b off n1 c1 f t w hn h}
theorem mc (m:SM):(smV m).length=6:=rfl
theorem bW{cap:Nat}{L:List SM}(h:w.ownsRow b 198 6 (Y (T (N g 0 Z)) L.length cap) L.length (L.flatMap smV)){i:Nat}{m:SM}(f:L[i]?=T m)(j:Nat)(l:j<6){u:ZB}(n:(smV m)[j]?=T u):A w (N g (i*6+j) Z)=T u:=by have h1:=h.cells (g:=g) rfl (i*6+j) u (by rw[cF smV 6 mc L i j l m f];exact n);rw[addr_add,JC] at h1;exact h1
theorem tk{L:List SM}{k:Nat}{t:ByteArray}{m:SM}(b:L[k]?=T m)(h1:(m.e.toList == t.toList)=ZF)(h2:∀(j:Nat) (m:SM),j<k->L[j]?=T m->(m.e.toList == t.toList)=ZA):fI L t=T k:=by have g:=(p9.1 b).1;have h:=(p9.1 b).2;unfold fI;rw[MS];refine⟨g,by rw[h];exact h1,λj f=>?_⟩;rw[Bool.not_eq_true];exact h2 j _ f (gq (by omega))
theorem vu{L:List SM}{t:ByteArray}(h2:∀(j:Nat) (m:SM),j<L.length->L[j]?=T m->(m.e.toList == t.toList)=ZA):fI L t=Z:=by unfold fI;rw[MV];intro m f;obtain⟨j,b⟩:=LF f;exact h2 j m (p9.1 b).1 b
section
variable {w0:M}{hb:Nat}{s0 s1 md or st:ZB}{making:List ByteArray}{made:List Ent}{L:List SM}
theorem tl (w:M)(t:ByteArray)(u:Nat)(c2:A w (N hb 2 Z)=T md)(f:w.ownsRow u 198 6 md L.length (L.flatMap smV))(hL:L.length<=100000):Calls Pg 131 #[.pointer (T (N hb 0 Z)),U t] w λe w'=>e=ZD (Q I (dD (fI L t)))/\w'=w:=by
 obtain⟨R,hR⟩:∃R,R=dD (fI L t):=⟨_,rfl⟩
 rw[<-hR];have x:=ae hR;have o:=ae f;obtain⟨a,c,rfl⟩:∃a c,md=Y a L.length c:=by
  obtain⟨_,⟨rfl,e⟩|⟨g,cap,ZS,rfl,_⟩⟩:=f;{exact⟨Z,0,by rw[e]⟩};{exact⟨_,_,rfl⟩}
 obtain⟨n,hn⟩:∃n,n=L.length:=⟨_,rfl⟩
 have s:=ae hn;rw[<-hn] at c2 hL;clear f hR hn;go_enter func131,ntmps131;go_wp2;go_loop [5] (λi=>∃k:Nat,k<=n/\i=Q I k/\Hid (∀(j:Nat) (m:SM),j<k->L[j]?=T m->(m.e.toList == t.toList)=ZA)) (λi=>n - (intOf i).toNat);case atStart=>exact⟨0,by omega,rfl,λj m q=>absurd q (JI _)⟩
 case round =>
  obtain⟨k,hk,rfl,r⟩:=hrel;by_cases hlt:k<n
  ·obtain⟨m,l⟩:∃m,L[k]?=T m:=⟨_,gq (by have:=s.out;omega)⟩
   obtain⟨g,cap,ZS,e,-⟩:=o.2.resolve_left (λh=>by have:=s.out;omega);simp only[JG,P6] at e;obtain⟨rfl,rfl⟩:=e;have d0:A w (N g (k*6) Z)=T (U m.e):=bW o l 0 (by omega) rfl;have y:=ae l;have hI:(k:Int)<(n:Int):=by omega
   clear l;cases hb2:(m.e.toList == t.toList) with
   |true =>have p:=ae hb2;go_wp2;go_ret;exact⟨by rw[x.out,tk y.out p.out r.out];rfl,rfl⟩
   |false =>
    have p:=ae hb2;go_wp2;refine⟨⟨k+1,by omega,by go_num,λj ZT q b=>?_⟩,by simp[intOf];omega⟩;by_cases e:j=k;{subst e;rw[y.out] at b;cases b;exact p};{exact r j ZT (by omega) b}
  ·have e:k=n:=by omega
   subst e;go_wp2;go_ret;exact⟨by rw[x.out,vu (λj m q l=>r.out j m (by have:=s.out;omega) l)];rfl,rfl⟩
theorem nB (w:M)(t:ByteArray)(h:SI w0 hb s0 s1 w making made L md or st)(hL:L.length<=100000):Calls Pg 131 #[.pointer (T (N hb 0 Z)),U t] w λe w'=>e=ZD (Q I (dD (fI L t)))/\w'=w:=by obtain⟨-,-,-,c2,-⟩:=h.ab.K;exact tl w t (B (z w0)) c2 h.W hL
end
structure nC (w0:M)(S:Spc)(a0:Option Addr)(a1:Option Addr):Prop where
 src:SlSource w0 a0 S.n0 S.f0
 j:SlTarget w0 a1 S.n1 S.f1
 ok:SpcOk S
def gS (w0:M)(hb:Nat)(w':M)(r:iO)(b:ZB):Prop:=∃s0 s1 md or st,ShBox w' hb s0 s1 md or st r.E r.y b ZF/\w'.ownsRow (B (z w0)) 9 1 b r.w.length (bo r.w)
structure LExt (n:Nat)(L L':List SM):Prop where
 nam:∀(i:Nat) (m:SM),L[i]?=T m->∃m':SM,L'[i]?=T m'/\m'.e=m.e
 sn:∀m∈L',m.done=ZF->(∃m0∈L,m0.done=ZF/\m0.sv=m.sv)∨∀k,m.sv.ownBlock=T k->n<=k
theorem LExt.refl (n:Nat)(L:List SM):LExt n L L:=⟨λ_ m h=>⟨m,h,rfl⟩,λm b f=>.inl ⟨m,b,f,rfl⟩⟩
theorem LExt.trans{q:Nat}{L p b:List SM}(h:LExt n L p)(k:LExt q p b)(hn:n<=q):LExt n L b:=by
 refine⟨λi m l=>?_,λm l t=>?_⟩;{obtain⟨j,h1,g⟩:=h.nam i m l;obtain⟨x,h2,u⟩:=k.nam i j h1;exact⟨x,h2,u.trans g⟩};{rcases k.sn m l t with ⟨m0,s,r,e⟩|h1;{rcases h.sn m0 s r with ⟨j,h1,o,g⟩|h1;{exact .inl ⟨j,h1,o,g.trans e⟩};{exact .inr λk f=>h1 k (by rw[e];exact f)}};{exact .inr λk f=>nD hn (h1 k f)}}
def iA (c:List ByteArray):iO:=⟨6,⟨#[]⟩,c⟩
def iB (d:ByteArray):iO:=⟨7,d,[]⟩
def ig (r:iO)(b:ZB):ZB:=ZG #[Q I r.E,U r.y,b]
def kj (w0:M)(hb:Nat)(s0 s1:ZB)(making:List ByteArray)(L:List SM)(w:M)(e:Ending)(w':M):Out Ent->Prop
 |.inl (made',x)=>∃b g h f,e=ZD (ZG #[Q I (cI x).E,U (cI x).y,Y Z 0 0])/\SI w0 hb s0 s1 w' making made' b g h f/\eK b making made'/\LExt (B (z w)) L b/\KS (B (z w0)) XN w w'
 |.inr (.inl c)=>∃a k,e=ZD (ig (iA c) (Y a c.length k))/\gS w0 hb w' (iA c) (Y a c.length k)/\KS (B (z w0)) XN w w'
 |.inr (.inr d)=>e=ZD (ig (iB d) (Y Z 0 0))/\gS w0 hb w' (iB d) (Y Z 0 0)/\KS (B (z w0)) XN w w'
def ec (S:Spc)(making:List ByteArray)(made:List Ent)(k:Nat):Prop:=made.length+201*du S making made+k<=50000
def MT (S:Spc)(making:List ByteArray):Prop:=∀t∈making,(atI (nm1 S.f1) S.n1 t).isSome=ZF
def lL (w0:M)(S:Spc)(hb:Nat)(s0 s1:ZB)(n:Nat):Prop:=∀making made L md or st w nm,making.length+n=60->SI w0 hb s0 s1 w making made L md or st->eK L making made->PG S making made->ec S making made 1->MT S making->aA nm=ZF ->
 Calls Pg 130 #[.pointer (T (N hb 0 Z)),U nm] w λe w'=>kj w0 hb s0 s1 making L w e w' (aQ S n making made nm)
theorem jF{a:Nat}(h:(Pg.info? e).map (λi=>(i.zero,i.size,i.bytes))=T (T ZS,a,b)):∃i,Pg.info? e=T i/\i.zero=T ZS/\i.size=a/\i.bytes=b:=by
 cases hi:Pg.info? e with
 |none=>rw[hi] at h;cases h
 |some i =>rw[hi] at h;simp only[PI,JE,JL] at h;exact⟨i,rfl,h⟩
theorem nE:(Pg.info? 9).map (λi=>(i.zero,i.size,i.bytes))=T (T (U ⟨#[]⟩),1,16):=by kernel_rfl
theorem xk:(Pg.info? 166).map (λi=>(i.zero,i.size,i.bytes))=T (T (ZG #[ZC ZA,Q I 0,U ⟨#[]⟩]),3,32):=by kernel_rfl
theorem Bc:(Pg.info? 201).map (λi=>(i.zero,i.size,i.bytes))=T (T (ZG #[U ⟨#[]⟩,ZC ZA,ZC ZA]),3,24):=by kernel_rfl
theorem Bd:(Pg.info? 198).map (λi=>(i.zero,i.size,i.bytes))=T (T (ZG #[U ⟨#[]⟩,Q I 0,U ⟨#[]⟩,Y Z 0 0,Y Z 0 0,ZC ZA]),6,96):=by kernel_rfl
def kl (b:List aB):List ZB:=b.flatMap λr=>[ZC r.has,Q I r.E,U r.y]
theorem Be (b:List aB)(r:aB):kl (b++[r])=kl b++[ZC r.has,Q I r.E,U r.y]:=by simp[kl]
theorem yM (b:List Lk)(l:Lk):dJ (b++[l])=dJ b++[U l.e,ZC l.ask,ZC l.has]:=by simp[dJ]
theorem DX{l c:Nat}{b:List aB}(h:w.ownsRow l 166 3 (Y (T (N g 0 Z)) b.length c) b.length (kl b)):RowReply w g 0 b.length (yL b):=by
 obtain⟨_,o,cs,hc⟩:=af h g rfl;refine⟨o,λi hi=>?_⟩;have p:b[i]?=T (yL b i):=by simp[yL,gq hi]
 have f:∀j u,j<3->([Value.bool (yL b i).has,Q I (yL b i).E,U (yL b i).y]:List ZB)[j]?=T u->A w (N g (i*3+j) Z)=T u:=λj u n m=>by have h1:=h.cells (g:=g) rfl (i*3+j) u (by rw[kl,cF (λr:aB=>[ZC r.has,Q I r.E,U r.y]) 3 (λ_=>rfl) b i j n _ p];exact m);rw[addr_add,JC] at h1;exact h1
 refine⟨?_,?_,?_⟩;{rw[JC];exact f 0 _ (by omega) rfl};{rw[JC];exact f 1 _ (by omega) rfl};{rw[JC];exact f 2 _ (by omega) rfl}
theorem me (w:M)(e:ZH)(size:Nat):(w.alloc (J #[] e)).ownsRow (B (z w)) e size (Y (T (N (B (z w)) 0 Z)) 0 0) 0 [] :=
 ⟨by simp,.inr ⟨B (z w),0,#[],rfl,nX _,gM _ _,nX _,IH _,by simp,by simp⟩⟩
theorem yN (j:SpcOk S)(i:tg<S.n1){b:List aB}(g:∀y∈b,ci y=ZF)(hl:b.length<=200):lX (S.f1 tg).D (S.f1 tg).m (yL b) b.length=dt S tg b:=by
 unfold lX;have f:bE (yL b) b.length=ZF:=by
  have:∀k,bE (yL b) k=ZF:=λk=>by
   induction k with
   |zero=>rfl
   |succ k h=>rw[bE,h,Cv g k];rfl
  exact this _
 rw[eT (by rw[j.D tg i];simp),eT (by omega),eT (by rw[f];simp)];rfl
theorem Bf (f:SpcOk S)(b:tg<S.n1):∀i,i<(S.f1 tg).m->((S.f1 tg).D i).s.size<=maxLen:=λi hi=>by
 have h1:=iU (bM (f.D tg b)).1 hi;simp only[b9,xT] at h1;obtain⟨i1,i2,i3,i4,i5⟩:=h1;have hmt2:bF ((S.f1 tg).D i).op<=2000:=by unfold bF;split<;>omega
 unfold maxLen;omega
section
variable {w0:M}{S:Spc}{a0 a1:Option Addr}{c0 c1 hb:Nat}{md or st:ZB}{making:List ByteArray}{made:List Ent}{L:List SM}
theorem nF (C:nC w0 S a0 a1)(w:M)(t:ByteArray)(g:Below (B (z w0)) w0 w)(q:hb<B (z w))(m:A w (N hb 0 Z)=T (Y a0 S.n0 c0))(l:A w (N hb 1 Z)=T (Y a1 S.n1 c1)):Calls Pg 236 #[.pointer (T (N hb 0 Z)),U t] w λe w'=>e=ZD (ZC (ft S t))/\Below (B (z w)) w w':=by
 have s:=ae C;have o:=ae g;have hsm:=C.ok.ax;obtain⟨R,hR⟩:∃R,R=ft S t:=⟨_,rfl⟩
 rw[<-hR];have n:Hid (R=((atI (nm0 S.f0) S.n0 t).isSome || (atI (nm1 S.f1) S.n1 t).isSome)):=by show _=_;rw[hR];unfold ft;rw[gR,gR]
 clear C g hR;go_enter func236,ntmps236;go_wp2_with fail;refine(gH a0 S.n0 c0 a1 S.n1 c1 S.f0 t w (by omega) (s.src.aa o ly)).mono ?_;rintro e r ⟨rfl,b⟩;have ZS:=(b.cell (p:=(N hb 0 Z)) q).trans m;have y:=(b.cell (p:=(N hb 1 Z)) q).trans l;have hl1:hb<B (z r):=lj q b.size;have h:=ae b;clear b m l;cases h0:atI (nm0 S.f0) S.n0 t with
 |some i =>
  have j:=ae h0;clear h0;have x:(0:Int)<=(i:Int):=by omega
  simp only[dD];go_wp2;go_ret;exact⟨by rw[n.out,j.out];rfl,h⟩
 |none =>
  have j:=ae h0;clear h0;simp only[dD];go_wp2_with fail;refine(gI a0 S.n0 c0 a1 S.n1 c1 S.f1 t r (by omega) (s.j.aa (o.trans (h.mono o.size)) ly)).mono ?_;rintro e w2 ⟨rfl,b⟩;have u:=ae (h.trans (b.mono h.size));clear b ZS y;cases h1:atI (nm1 S.f1) S.n1 t with
  |some i =>
   have f:=ae h1;clear h1;have x:(0:Int)<=(i:Int):=by omega
   simp only[dD];go_wp2;go_ret;exact⟨by rw[n.out,j.out,f.out];simp,u⟩
  |none =>have f:=ae h1;clear h1;simp only[dD];go_wp2;go_ret;exact⟨by rw[n.out,j.out,f.out];rfl,u⟩
end
