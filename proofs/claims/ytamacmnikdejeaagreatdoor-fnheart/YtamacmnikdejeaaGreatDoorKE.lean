import Derived.Test.YtamacmnikdejeaaGreatDoorKD
import Derived.Test.YtamacmnikdejeaaGreatDoorMA
import Derived.Test.YtamacmnikdejeaaGreatDoorLJ
set_option maxRecDepth 1000000
set_option maxHeartbeats 8000000
set_option linter.unusedSimpArgs false
open Go renaming Addr.mk->Q,Value.slice->Y,Value.string->U,Value.int->J,Value.bool->ZC,Value.agg->ZG,Obj.cells->N,IntKind.i64->I,World->E,Value->ZB,TypeId->ZH,Ending.returned->ZF,World.heap->z,World.cell?->B,Proofs.Tryz.prog->Pg
open Option renaming none->Z,some->T
open Bool renaming false->ZA,true->ZD
open Array renaming size->A
namespace Go.Proofs.YtamacmnikdejeaaGreatDoor.Vp
open Tryz RowKit
variable {nm sx:ByteArray}{b tg n g ZT m C p o j hb:Nat}{t e:ZH}{f ZS v' or:ZB}{X:Nat->Prop}{x:Ent}{G:ByteArray->Nat}{mm:List ByteArray}{made a:List Ent}{u:ByteArray->ZB}{w':E}
theorem oS (w:E):(zeroValue 241).run Pg w=.ok (ZG #[J I 0,.pointer Z]) w:=by kernel_rfl
theorem jH (made:List Ent)(nm:ByteArray):made.find? (λe=>e.e.toList == nm.toList)=aO made nm:=rfl
theorem rS{e:Ent}(h:aO made nm=T e):dB G mm made nm.toList=T (ZG #[J I 0,.pointer (T (Q (G e.e) 0 Z))]):=by unfold dB;rw[jH,h]
theorem gX (h:aO made nm=Z):dB G mm made nm.toList=(atL mm nm).map λ(i:Nat)=>ZG #[J I (i:Int),.pointer Z]:=by unfold dB;rw[jH,h];rfl
section
variable {w0:E}{S:Spc}{mb mp:Nat}{s0 s1 mk md:ZB}{mm making:List ByteArray}{made:List Ent}{G:ByteArray->Nat}{V:ByteArray->ZB}
theorem Dp (w:E)(nm:ByteArray)(h:MI w0 S mb mp s0 s1 w mm making made G V mk md)(hn:nm.size<=60)(e:Ent)(b:aO made nm=T e):Calls Pg 126 #[.pointer (T (Q mb 0 Z)),U nm] w λr w'=>r=ZF (.pointer (T (Q (G e.e) 0 Z)))/\Below (A (z w)) w w':=by
 have l:=ae (show(dB G mm made nm.toList).getD (ZG #[J I 0,.pointer Z])=ZG #[J I 0,.pointer (T (Q (G e.e) 0 Z))] by rw[rS b];rfl);have g:=ae (show(dB G mm made nm.toList).isSome=ZD by rw[rS b];rfl);have j:=ae h;obtain⟨hl,-,-,c2,-,-,-⟩:=h.l.D;have f:nm.size<=maxLen:=by unfold maxLen;omega
 have hz:=oS;have i:=ae ((BS w).alloc ly (N #[J I 0,.pointer (T (Q (G e.e) 0 Z))] 241));clear h b;go_enter func126,ntmps126
 go_wp2_with (first
  |(at_lookup;refine iD _ rfl _ _ 194 rfl 241 PI (hz _) mp _ _ rfl j.map nm rfl f _ l ZD g ?_)
  |fail)
 go_ret;exact⟨rfl,i⟩
theorem vV (w:E)(nm:ByteArray)(h:MI w0 S mb mp s0 s1 w making making made G V mk md)(hn:nm.size<=60)(hm:making.length<=60)(ZQ:aO made nm=Z)(i:Nat)(hi:atL making nm=T i):Calls Pg 126 #[.pointer (T (Q mb 0 Z)),U nm] w λr w'=>∃v,r=.panicked [{ v:=.iface 236 (ZG #[v]),recovered:=ZA }]/\w'.ownsRow (A (z w)) 9 1 v (making.drop i).length (bA (making.drop i))/\Below (A (z w)) w w':=by
 have HV:=ae (show(dB G making made nm.toList).getD (ZG #[J I 0,.pointer Z])=ZG #[J I (i:Int),.pointer Z] by rw[gX ZQ,hi];rfl);have HF:=ae (show(dB G making made nm.toList).isSome=ZD by rw[gX ZQ,hi];rfl);have X:=ae h;obtain⟨ZI,-,-,c2,c3,-,-⟩:=h.l.D;have ZM:i<making.length:=by unfold atL at hi;exact(List.findIdx?_eq_some_iff_findIdx_eq.1 hi).1
 obtain⟨g,cap,cur,rfl,hg1,ZS,ZN,hg4,M,ZL⟩:=h.rmk.2.resolve_left λh=>by omega
 have ZJ:=ae (h.rmk.cells (g:=g) rfl);have O:nm.size<=maxLen:=by unfold maxLen;omega
 have hz:=oS;obtain⟨q,l⟩:∃W:E,w.alloc (N #[J I (i:Int),.pointer Z] 241)=W:=⟨_,rfl⟩
 obtain⟨m,-,-⟩:=nb1 l;have b:=ae l;clear l;have R:g<A (z w):=ah ZS;obtain⟨n,x⟩:∃n,n=making.length:=⟨_,rfl⟩
 rw[<-x] at ZM hm c3 ZN;have ZR:=ae x;clear x;have y:=(m.cell (p:=(Q mb 3 Z)) ZI).trans c3;have ZO:B q (Q (A (z w)) 0 Z)=T (J I (i:Int)):=by rw[<-b.out];simp
 clear h ZQ ZS M ZL hi;go_enter func126,ntmps126
 go_wp2_with (first
  |(at_lookup;refine iD _ rfl _ _ 194 rfl 241 PI (hz _) mp _ _ rfl X.map nm rfl O _ HV ZD HF ?_)
  |fail)
 clear c2 c3;have L:A (z w)<A (z q):=by rw[<-b.out];simp
 rw[b.out];clear b;have hI0:(0:Int)<=(i:Int):=by omega
 have hI1:(i:Int)<=(n:Int):=by omega
 have hI2:(n:Int)<=(cap:Int):=by omega
 have hcl:¬ cap=i:=by omega
 have C:mb<A (z q):=by have:=m.size;omega
 have D:A (z w)<A (z q):=L;have ZK:Hid (∀W,Below (A (z w)) w W->∀j,j<(making.drop i).length->B W (Q g (i+j) Z)=T (U ((making.drop i).getD j ByteArray.empty))):=λW hW j hj=>by
  rw[LP] at hj
  have h1:=ZJ.out (i+j) (U ((making.drop i).getD j ByteArray.empty)) (by
   rw[bA,KN,gq (by omega)]
   simp[IS,List.getElem?_drop,gq (show i+j<making.length by omega)])
  exact(hW.cell (p:=(Q g (i+j) Z)) R).trans (by rw[addr_add,IT] at h1;exact h1)
 refine wp_region_held_drew (S:=λV=>B V (Q mb 3 Z)=T (Y (T (Q g 0 Z)) n cap)/\B V (Q (A (z w)) 0 Z)=T (J I (i:Int))) (by as_aux_lemma=>kernel_rfl) ⟨y,ZO⟩ λP=>?_;have u:=ae P;clear P;iterate 7
  first|refine ba 0 (v:=?_) rfl rfl (by as_aux_lemma=>kernel_rfl) (λ_ _ _ h=>h) rfl ?_ u ?_|refine ba 4 (v:=?_) rfl rfl (by as_aux_lemma=>kernel_rfl) (λ_ _ _ h=>h) rfl ?_ u ?_
  rotate_left
  ·(rintro wz ⟨s0,s1⟩;go_simp)
   (try with_reducible rfl)
  (try simp only[Act.put,nzL])
 refine aN (i:=7) rfl (by as_aux_lemma=>kernel_rfl) λK ZP=>?_;go_simp;go_at_call 160;refine(Tryz.slices_Clone_string g i (n - i) (cap - i) (making.drop i) _ (by rw[LP,<-ZR.out];exact nX _) (by omega) (ZK _ m.drew)).mono ?_;rintro e H ⟨v2,rfl,f,ZT,o⟩;have O2:=ae f;obtain⟨g2,cap2,cur2,rfl,q1,q2⟩:=f.2.resolve_left (λh=>ZT h.1);have t:Hid (Below (A (z q)) q H):=⟨o.os,o.tape,o.output,o.size,o.block⟩
 clear f o q1 q2 ZT;refine ZP _ _ ⟨(t.cell (p:=(Q mb 3 Z)) C).trans y,(t.cell (p:=(Q (A (z w)) 0 Z)) D).trans ZO⟩ ?_;clear ZP K u;have u:Hid (B H (Q mb 3 Z)=T (Y (T (Q g 0 Z)) n cap)/\B H (Q (A (z w)) 0 Z)=T (J I (i:Int))):=⟨(t.cell (p:=(Q mb 3 Z)) C).trans y,(t.cell (p:=(Q (A (z w)) 0 Z)) D).trans ZO⟩
 (try simp only[Act.put,nzL])
 iterate 2
  refine ba 8 (v:=?_) rfl rfl (by as_aux_lemma=>kernel_rfl) (λ_ _ _ h=>h) rfl ?_ u ?_;rotate_left
  ·(rintro wz ⟨s0,s1⟩;go_simp)
   (try with_reducible rfl)
  (try simp only[Act.put,nzL])
 refine aN (i:=10) rfl (by as_aux_lemma=>kernel_rfl) λK ZP=>?_;go_simp;refine⟨rfl,_,rfl,?_,?_⟩
 ·have h1:=aF (base':=A (z w)) O2 m.size;have e1:(making.drop i).length=n - i:=by rw[LP,<-ZR.out]
  rw[e1];rw[LQ (by omega)] at h1;exact h1
 {exact m.trans (t.mono m.size)}
end
def lK {b:Type}(f:ByteArray->b)(nm:ByteArray)(v:b):ByteArray->b:=λt=>if t.toList=nm.toList then v else f t
theorem eU{b:Type}(f:ByteArray->b)(nm:ByteArray)(v:b):lK f nm v nm=v:=j6 rfl
theorem iQ{b:Type}(f:ByteArray->b){t:ByteArray}(v:b)(h:t≠nm):lK f nm v t=f t:=eT λe=>h (eX e)
theorem yH{making:List ByteArray}(b:aO made nm=Z)(h1:atL making nm=Z)(s:List UInt8):(if s=nm.toList then T (ZG #[J I (making.length:Int),.pointer Z]) else dB G making made s)=dB G (making++[nm]) made s:=by
 unfold dB;by_cases e:s=nm.toList;{subst e;rw[j6 rfl,jH,b,QK,show List.findIdx? (λx:ByteArray=>x.toList == nm.toList) making=Z from h1];simp[Q9]}
 ·rw[eT e,QK];have hn:(nm.toList == s)=ZA:=by simpa using λh=>e h.symm
  cases made.find? (λe=>e.e.toList == s) with
  |some x=>rfl
  |none=>simp[Q9,hn]
theorem Dq{b:ByteArray->Nat}{making:List ByteArray}(m:aO made nm=Z)(f:x.e=nm)(l:∀y∈made,b y.e=G y.e)(i:b nm=g)(j:mm=making∨mm=making++[nm])(s:List UInt8):(if s=nm.toList then T (ZG #[J I 0,.pointer (T (Q g 0 Z))]) else dB G mm made s)=dB b making (made++[x]) s:=by
 unfold dB;rw[List.find?_append];by_cases e:s=nm.toList;{subst e;rw[j6 rfl,jH,m];simp[f,i]}
 ·rw[eT e];have hn:(nm.toList == s)=ZA:=by simpa using λh=>e h.symm
  cases hf:made.find? (λe=>e.e.toList == s) with
  |some y =>simp only[Option.some_or];rw[l y (QU hf)]
  |none =>
   have h2:List.find? (λe:Ent=>e.e.toList == s) [x]=Z:=by simp[f,hn]
   rw[h2];rcases j with rfl|rfl;{rfl};{simp[QK,Q9,hn]}
section
variable {w0 w:E}{S:Spc}{mb mp:Nat}{s0 s1 mk md:ZB}{mm making:List ByteArray}{made:List Ent}{G:ByteArray->Nat}{V:ByteArray->ZB}
theorem EntAt.congr{f:ByteArray->Nat}{v:ZB}(h:EntAt w0 S G w b v x)(i:∀l∈x.looks,l.ask=ZD->f l.e=G l.e):EntAt w0 S f w b v x:=by obtain⟨h1,h2,g⟩:=h;refine⟨h1,h2,?_⟩;rw[nU i];exact g
theorem MIg.added{cnt:Nat}{v:ZB}(h:MIg w0 S mb mp s0 s1 w cnt (λs=>if s=nm.toList then T (ZG #[J I 0,.pointer (T (Q m 0 Z))]) else dB G mm made s) making.length (bA making) (made.length+1) (jr G made++[.pointer (T (Q m 0 Z))]) made G V mk md)(ZR:PG S making made)(t:aO made nm=Z)(p:x.e=nm)
  (ZT:mm=making∨mm=making++[nm]) (D:cnt<=2*(made.length+1)+making.length) (u:EntAt w0 S G w m v x) (C:∀y∈made,G y.e≠m) (g:∀l∈x.looks,l.ask=ZD->∃y∈made,y.e=l.e) :
  MI w0 S mb mp s0 s1 w making making (made++[x]) (lK G nm m) (lK V nm v) mk md:=by
 have q:=dx t;have n:∀y∈made,lK G nm m y.e=G y.e:=λy f=>iQ _ _ (q y f);have ZQ:∀y∈made,lK V nm v y.e=V y.e:=λy f=>iQ _ _ (q y f);have o:(made++[x]).length=made.length+1:=by simp
 refine⟨h.ak,h.mbB,h.mpB,h.l,h.rmk,?_,?_,λy f=>?_,?_⟩;{have e:jr (lK G nm m) (made++[x])=jr G made++[.pointer (T (Q m 0 Z))]:=(by simp only[jr,KI,PQ,R8,p,eU];rw[UB λy f=>by rw[n y f]]);rw[e,o];exact h.ag};{rw[o];exact(h.map.mono D).congr λs=>Dq t p n (eU _ _ _) ZT s};{rcases wC.1 f with f|f;{rw[n y f,ZQ y f];refine(h.W y f).congr λl o g=>?_;obtain⟨i,hi⟩:=LZ f;obtain⟨j,ZS,_,hz,hn⟩:=ZR.ord i y hi l o g;rw[<-hn];exact n ZS (J2 hz)};{rw[hU.1 f,p,eU,eU];refine u.congr λl o r=>?_;obtain⟨ZS,hz,hn⟩:=g l o r;rw[<-hn];exact n ZS hz}};{rw[MN];refine⟨?_,RU _ _,λa g b hb=>?_⟩;{exact h.dist.imp_of_mem λ{a b} g hb h=>by rw[n a g,n b hb];exact h};{rw[hU.1 hb,p,eU,n a g];exact C a g}}
structure Ext (n:Nat)(made made':List Ent)(G G':ByteArray->Nat)(V V':ByteArray->ZB):Prop where
 pre:∃more,made'=made++more
 same:∀x∈made,G' x.e=G x.e/\V' x.e=V x.e
 new:∀x∈made',x∈made∨(n<=G' x.e/\∀k,(V' x.e).ownBlock=T k->n<=k)
theorem Ext.refl (n:Nat)(made:List Ent)(G:ByteArray->Nat)(V:ByteArray->ZB):Ext n made made G G V V:=⟨⟨[],by simp⟩,λ_ _=>⟨rfl,rfl⟩,λ_ h=>.inl h⟩
theorem Ext.mem{b:List Ent}{i:ByteArray->Nat}{V g:ByteArray->ZB}(h:Ext n made b G i V g):∀x∈made,x∈b:=by obtain⟨more,e⟩:=h.pre;intro x f;rw[e];exact LB _ f
theorem Ext.trans{b c:List Ent}{r t s:ByteArray->Nat}{o l:ByteArray->ZB}(h:Ext n a b r t u o)(k:Ext m b c t s o l)(g:n<=m):Ext n a c r s u l:=by
 obtain⟨p,ZT⟩:=h.pre;obtain⟨q,D⟩:=k.pre;refine⟨⟨p++q,by rw[D,ZT,KU]⟩,λx f=>?_,λx f=>?_⟩;{obtain⟨C,ZS⟩:=h.same x f;obtain⟨i,j⟩:=k.same x (h.mem x f);exact⟨i.trans C,j.trans ZS⟩}
 ·rcases k.new x f with hb|⟨h1,h2⟩
  ·obtain⟨i,j⟩:=k.same x hb;rcases h.new x hb with ZR|⟨h1,h2⟩
   {exact .inl ZR};{exact .inr ⟨by rw[i];exact h1,by rw[j];exact h2⟩}
  {exact .inr ⟨nL g h1,λk y=>nL g (h2 k y)⟩}
theorem Ext.mono{b:List Ent}{l g:ByteArray->Nat}{i j:ByteArray->ZB}(h:Ext n a b l g i j)(f:m<=n):Ext m a b l g i j :=
 ⟨h.pre,h.same,λx o=>(h.new x o).imp id λ⟨h1,h2⟩=>⟨nL f h1,λk p=>nL f (h2 k p)⟩⟩
theorem FA{f:Nat}{v:ZB}(g:aO made nm=Z)(h:x.e=nm)(h1:n<=f)(h2:∀k,v.ownBlock=T k->n<=k):Ext n made (made++[x]) G (lK G nm f) V (lK V nm v):=by
 refine⟨⟨_,rfl⟩,λy b=>⟨iQ _ _ (dx g y b),iQ _ _ (dx g y b)⟩,λy b=>?_⟩;rcases wC.1 b with b|b;{exact .inl b};{rw[hU.1 b,h,eU,eU];exact .inr ⟨h1,h2⟩}
theorem EU.step{t:Nat}{p:List Lk}{v:ZB}{f:List Ent}{n:ByteArray->Nat}(h:EU w0 S w t nm tg G p v made V)(q:KX (A (z w0)) XN w w')(i:Ext (A (z w)) made f G n V u):EU w0 S w' t nm tg n p v f u:=by
 obtain⟨⟨a,cap,hb,j⟩,s,m,y,r,has⟩:=h;have ZR:∀l∈p,l.ask=ZD->n l.e=G l.e:=λl o j=>by obtain⟨x,b,e⟩:=has l o j;rw[<-e];exact(i.same x b).1
 have hebl:=ah hb;refine⟨⟨a,cap,(q.ab _ _ _ _ hb (by decide) (by decide) (by decide) λh=>h).trans hb,j⟩,s,?_,λx b=>?_,λx b k g=>?_,λl o j=>?_⟩;{rw[nU ZR];refine bO m λk g=>?_;obtain⟨_,_,cs,ZS⟩:=af m k g;exact q.ab k _ _ _ ZS (by decide) (by decide) (by decide) λh=>h}
 ·rcases i.new x b with b|⟨h1,_⟩
  {rw[(i.same x b).1];exact y x b};{omega}
 ·rcases i.new x b with b|⟨_,h1⟩
  {rw[(i.same x b).2];exact r x b k g};{intro e;have:=h1 k e;have:=(af m k g).2.1;omega}
 {obtain⟨x,b,e⟩:=has l o j;exact⟨x,i.mem x b,e⟩}
end
structure Ctx (w0:E)(S:Spc)(a0:Option Addr)(c0:Nat)(a1:Option Addr)(c1:Nat):Prop where
 src:SlSource w0 a0 S.n0 S.f0
 w:SlTarget w0 a1 S.n1 S.f1
 ok:SpcOk S
 tab:Tab2 w0
 pow:Pow w0
 sz:∀i,i<S.n0->(S.f0 i).H.size<=maxLen
def uI (w0:E)(S:Spc)(mb mp:Nat)(s0 s1:ZB)(making:List ByteArray)(made:List Ent)(G:ByteArray->Nat)(V:ByteArray->ZB)(w:E)(e:Ending)(w':E):Out Ent->Prop
 |.inl (made',x)=>∃b h f g,e=ZF (.pointer (T (Q (b x.e) 0 Z)))/\MI w0 S mb mp s0 s1 w' making making made' b h f g/\Ext (A (z w)) made made' G b V h/\KX (A (z w0)) XN w w'
 |.inr (.inl c)=>∃v,e=.panicked [{ v:=.iface 236 (ZG #[v]),recovered:=ZA }]/\w'.ownsRow (A (z w0)) 9 1 v c.length (bA c)/\Below (A (z w0)) w w'
 |.inr (.inr d)=>e=.panicked [{ v:=.iface 238 (ZG #[U d]),recovered:=ZA }]/\Below (A (z w0)) w w'
def eB (S:Spc)(making:List ByteArray)(made:List Ent)(k:Nat):Prop:=made.length+201*dN S making made+k<=50000
def js (w0:E)(S:Spc)(mb mp:Nat)(s0 s1:ZB)(n:Nat):Prop:=∀making made G V mk md w nm,making.length+n=60->MI w0 S mb mp s0 s1 w making making made G V mk md->PG S making made->eB S making made 1->aB nm=ZD ->
 Calls Pg 126 #[.pointer (T (Q mb 0 Z)),U nm] w λe w'=>uI w0 S mb mp s0 s1 making made G V w e w' (aP S n making made nm)
theorem pU{a:Nat}(h:(Pg.info? e).map (λi=>(i.zero,i.size,i.bytes))=T (T ZS,a,b)):∃i,Pg.info? e=T i/\i.zero=T ZS/\i.size=a/\i.bytes=b:=by
 cases hi:Pg.info? e with
 |none=>rw[hi] at h;cases h
 |some i =>rw[hi] at h;simp only[QY,KJ,KH] at h;exact⟨i,rfl,h⟩
theorem wX:(Pg.info? 200).map (λi=>(i.zero,i.size,i.bytes))=T (T (ZG #[U ⟨#[]⟩,ZC ZA,ZC ZA,J I 0,.pointer Z]),5,40):=by kernel_rfl
theorem Dr:(Pg.info? 9).map (λi=>(i.zero,i.size,i.bytes))=T (T (U ⟨#[]⟩),1,16):=by kernel_rfl
theorem Ds:(Pg.info? 134).map (λi=>(i.zero,i.size,i.bytes))=T (T (.pointer Z),1,8):=by kernel_rfl
abbrev uJ (t:ZH):Prop:=t≠9/\t≠134/\t≠196/\t≠137/\t≠200
section
variable {w0 w:E}{S:Spc}{mb mp:Nat}{s0 s1 mk md:ZB}{cnt nk np:Nat}{F:List UInt8->Option ZB}{ks ps:List ZB}{made:List Ent}{G:ByteArray->Nat}{V:ByteArray->ZB}
theorem MIg.ad{l:Array ZB}{fz:Nat × Nat}(h:MIg w0 S mb mp s0 s1 w cnt F nk ks np ps made G V mk md)(hb:w.heap[b]?=T (N l t fz))(ZR:uJ t)(s:A (z w0)<=b)(j:Nat)(u:ZB):MIg w0 S mb mp s0 s1 (w.setCell (Q b j Z) u) cnt F nk ks np ps made G V mk md:=by
 have r:KX (A (z w0)) (λi=>i=b) w (w.setCell (Q b j Z) u):=KX.setCell (X:=λi=>i=b) w s (Or.inl rfl) u;obtain⟨C,ZT,y,D,ZS⟩:=ZR;refine h.kx r (λi o hi n=>qh _ _ _ _ λe=>n e) (λe=>?_) (λe=>?_) (λk f e=>?_) (λk f e=>?_) λx q=>⟨λe=>?_,λk f e=>?_⟩
 {subst e;exact y (ai hb h.l)};{obtain⟨es,c,p⟩:=h.map.isMap;rw[e,hb] at p;cases p};{subst e;obtain⟨_,_,l,g⟩:=af h.rmk _ f;exact C (ai hb g)};{subst e;obtain⟨_,_,l,g⟩:=af h.ag _ f;exact ZT (ai hb g)};{obtain⟨act,m,_⟩:=(h.W x q).ab;rw[e] at m;exact D (ai hb m)};{subst e;obtain⟨_,_,l,g⟩:=af (h.W x q).row _ f;exact ZS (ai hb g)}
theorem EU.ad{n:List Lk}{v:ZB}{g:Array ZB}{fz:Nat × Nat}(h:EU w0 S w o nm tg G n v made V)(hb:w.heap[b]?=T (N g t fz))(s:uJ t)(j:Nat)(u:ZB):EU w0 S (w.setCell (Q b j Z) u) o nm tg G n v made V:=by
 obtain⟨⟨a,cap,f,p⟩,m,i,r,l,has⟩:=h;obtain⟨t1,t2,t3,y,q⟩:=s;refine⟨⟨a,cap,(qh _ _ _ _ λe=>?_).trans f,p⟩,m,aA i (λe=>?_) _ _,r,l,has⟩;{simp at e;subst e;exact y (ai hb f)};{obtain⟨_,_,g,x⟩:=af i _ e;exact q (ai hb x)}
theorem EU.aa{i:List Lk}{v:ZB}(h:EU w0 S w j nm tg G i v made V)(hb:Below C w w')(l:A (z w)<=C):EU w0 S w' j nm tg G i v made V:=by obtain⟨⟨a,cap,b,n⟩,g,m,o,f,has⟩:=h;exact⟨⟨a,cap,(hb.block _ (lj (ah b) l)).trans b,n⟩,g,own_below m hb l,o,f,has⟩
theorem EntBlk.D{text:ByteArray}{kind code place:Int}{act:ZB}(h:EntBlk w b nm kind code text act f place):b<A (z w)/\B w (Q b 0 Z)=T (U nm)/\B w (Q b 1 Z)=T (J I kind)/\B w (Q b 2 Z)=T (J I code)/\B w (Q b 3 Z)=T (U text)/\B w (Q b 4 Z)=T act/\B w (Q b 5 Z)=T (Y Z 0 0)/\B w (Q b 6 Z)=T f/\B w (Q b 7 Z)=T (J I place)/\∀j,w.frozen? (Q b j Z)=ZA:=by unfold EntBlk at h;refine⟨ah h,?_,?_,?_,?_,?_,?_,?_,?_,λj=>?_⟩;all_goals simp[World.cell?,World.frozen?,h]
theorem EU.tied{j:E}{m:List Lk}{v:ZB}{l:Lk}(h:EU w0 S w b nm tg G m v made V)(ZT:l.ask=ZD->∃x∈made,x.e=l.e)(y:w.grownBy j v.ownBlock)(p:j.ownsRow (A (z w0)) 200 5 v' (m.length+1) (fc G m++lJ G l))(H:v'.ownBlock=v.ownBlock∨v'.ownBlock=T (A (z w)))(ZP:∀x∈made,∀k,(V x.e).ownBlock=T k->k<A (z w)):EU w0 S (j.setCell (Q b 6 Z) v') b nm tg G (m++[l]) v' made V:=by
 obtain⟨⟨a,cap,g,ZQ⟩,t,q,ZR,r,has⟩:=h;have u:T b≠v.ownBlock:=λe=>by obtain⟨_,_,C,o⟩:=af q b e.symm;exact absurd (ai g o) (by decide)
 have f:j.heap[b]?=_:=(y.block b (ah g) u).trans g;refine⟨⟨a,cap,aw f v',ZQ⟩,t,?_,ZR,λx s k n=>?_,λZS hz i=>?_⟩;{rw[Ap,eL,AT];refine aA p (λe=>?_) _ _;obtain⟨_,_,C,o⟩:=af p b e;exact absurd (ai f o) (by decide)}
 ·rcases H with e|e;{exact r x s k (by rw[<-e];exact n)}
  ·rw[e] at n;cases n
   intro D;have:=ZP x s _ D;omega
 {rcases wC.1 hz with hz|hz;{exact has ZS hz i};{rw[hU.1 hz] at i ⊢;exact ZT i}}
theorem MIg.tied{p:E}{K:List Lk}{v:ZB}(h:MIg w0 S mb mp s0 s1 w cnt F nk ks np ps made G V mk md)(ZP:EU w0 S w n nm tg G K v made V)(y:w.grownBy p v.ownBlock):MIg w0 S mb mp s0 s1 (p.setCell (Q n 6 Z) v') cnt F nk ks np ps made G V mk md/\KX (A (z w0)) (λi=>i=n∨v.ownBlock=T i) w (p.setCell (Q n 6 Z) v'):=by
 obtain⟨⟨a,cap,b,ha⟩,D,l,ZQ,ZR,has⟩:=ZP;have H:KX (A (z w0)) (λi=>i=n∨v.ownBlock=T i) w p:=KX.of_grown y h.lt λj C=>⟨(af l j C).1,.inl (.inr C)⟩
 have ZO:KX (A (z w0)) (λi=>i=n∨v.ownBlock=T i) p (p.setCell (Q n 6 Z) v'):=KX.setCell p D (.inl (.inl rfl)) v';have ZS:=H.trans ZO λ_ _ h=>h;refine⟨h.kx ZS (λi o hi s=>?_) (λe=>?_) (λe=>?_) (λk m e=>?_) (λk m e=>?_) (λx r=>⟨λe=>?_,λk m e=>?_⟩),ZS⟩;{exact(qh _ _ _ _ λe=>s (.inl e)).trans (y.block i (ah hi) λe=>s (.inr e.symm))};{rcases e with e|e;{rw[<-e] at b;exact absurd (ai b h.l) (by decide)};{obtain⟨_,_,u,g⟩:=af l _ e;exact absurd (ai g h.l) (by decide)}};{obtain⟨es,c,ZT⟩:=h.map.isMap;rcases e with e|e;{unfold EntBlk at b;rw[<-e,ZT] at b;cases b};{obtain⟨_,_,u,g⟩:=af l _ e;rw[ZT] at g;cases g}};{obtain⟨_,_,u,g⟩:=af h.rmk _ m;rcases e with e|e;{rw[<-e] at b;exact absurd (ai b g) (by decide)};{obtain⟨_,_,q,f⟩:=af l _ e;exact absurd (ai g f) (by decide)}};{obtain⟨_,_,u,g⟩:=af h.ag _ m;rcases e with e|e;{rw[<-e] at b;exact absurd (ai b g) (by decide)};{obtain⟨_,_,q,f⟩:=af l _ e;exact absurd (ai g f) (by decide)}};{rcases e with e|e;{exact ZQ x r e};{obtain⟨act,t,_⟩:=(h.W x r).ab;obtain⟨_,_,q,f⟩:=af l _ e;exact absurd (ai t f) (by decide)}};{rcases e with e|e;{obtain⟨_,_,q,f⟩:=af (h.W x r).row _ m;rw[<-e] at b;exact absurd (ai b f) (by decide)};{exact ZR x r k e m}}
theorem MIg.vlt (h:MIg w0 S mb mp s0 s1 w cnt F nk ks np ps made G V mk md):∀x∈made,∀k,(V x.e).ownBlock=T k->k<A (z w):=λx b k f=>(af (h.W x b).row k f).2.1
end
open Ca
theorem bH{w:E}{size:Nat}{v:ZB}{f:List ZB}(h:w.ownsRow b e size v n f):∃a cap,v=Y a n cap:=by
 obtain⟨_,⟨rfl,rfl⟩|⟨g,cap,cur,rfl,_⟩⟩:=h;{exact⟨Z,0,rfl⟩};{exact⟨_,_,rfl⟩}
theorem wY (w:E)(f i l m b:ZB)(t:ZH):∀j u,[f,i,l,m,b][j]?=T u->(w.alloc (N #[f,i,l,m,b] t)).cell? (((Q (A (z w)) 0 Z):Addr).add j)=T u:=by
 intro j u h;rw[addr_add];have hj:j<5:=by
  rcases MG j 5 with g|g;{exact g};{rw[LJ (by simp;omega)] at h;cases h}
 rcases(show j=0∨j=1∨j=2∨j=3∨j=4 by omega) with rfl|rfl|rfl|rfl|rfl;all_goals
  simp at h;subst h;simp
section
variable {w0:E}{S:Spc}{a0 a1:Option Addr}{c0 c1 mb mp:Nat}{mk md:ZB}{making:List ByteArray}{made:List Ent}{G:ByteArray->Nat}{V:ByteArray->ZB}
def RepSt (w0:E)(S:Spc)(mb mp:Nat)(s0 s1:ZB)(w w':E)(making:List ByteArray)(made:List Ent)(G:ByteArray->Nat)(V:ByteArray->ZB)(mk md:ZB)(f tg:Nat)(nm:ByteArray)(g:List Lk)(v b:ZB):Prop :=
 MI w0 S mb mp s0 s1 w' making making made G V mk md/\EU w0 S w' f nm tg G g b made V/\KX (A (z w0)) (λi=>i=f∨v.ownBlock=T i) w w'/\∀k,b.ownBlock=T k->v.ownBlock=T k∨(A (z w))<=k
theorem RepSt.set{w W:E}{s0 s1:ZB}{o:List Lk}{v n:ZB}{g:Array ZB}(h:RepSt w0 S mb mp s0 s1 w W making made G V mk md p tg nm o v n)(hb:W.heap[b]?=T (N g t (0,0)))(m:uJ t)(l:A (z w0)<=A (z w))(f:A (z w)<=b)(j:Nat)(u:ZB):RepSt w0 S mb mp s0 s1 w (W.setCell (Q b j Z) u) making made G V mk md p tg nm o v n/\(W.setCell (Q b j Z) u).heap[b]?=T (N (g.setIfInBounds j u) t (0,0)) :=
 ⟨⟨h.1.ad hb m (nL l f) j u,h.2.1.ad hb m j u,h.2.2.1.trans (KX.setCell (X:=λi=>i=b) W (nL l f) (Or.inl rfl) u) (λi hi e=>by have e2:i=b:=e;omega),h.2.2.2⟩,aw hb u⟩
theorem dC{w:E}{g i:ZB}(h:w.heap[b]?=T (N #[f,g,i] t (0,0))):b<A (z w)/\B w (Q b 0 Z)=T f/\B w (Q b 1 Z)=T g/\B w (Q b 2 Z)=T i/\∀j,w.frozen? (Q b j Z)=ZA:=by refine⟨ah h,?_,?_,?_,λj=>?_⟩;all_goals simp[World.cell?,World.frozen?,h]
def GV (w W:E)(c0 c1 c2 c3 c4 c5:ZB):Prop:=Hid (Below (A (z w)) w W)/\B W (Q (A (z w)) 3 Z)=T c3/\B W (Q (A (z w)) 4 Z)=T c4/\(A (z W))=A (z w)+2/\Hid (W.heap[A (z w)+1]?=T (N #[ZC ZA,J I 0,U ⟨#[]⟩] 156 (0,0)))/\Hid (W.heap[A (z w)]?=T (N #[c0,c1,c2,c3,c4,c5] 150 (0,0)))
theorem wZ (w:E)(c0 c1 c2 c3 c4 c5:ZB):GV w ((w.alloc (N #[c0,c1,c2,c3,c4,c5] 150)).alloc (N #[ZC ZA,J I 0,U ⟨#[]⟩] 156)) c0 c1 c2 c3 c4 c5:=by refine⟨((BS w).alloc ly _).alloc (by simp) _,by simp[go_sem],by simp[go_sem],by simp,?_,(((cM (A (z w)+1) _).alloc (by simp) _).block (A (z w)) (by omega)).trans (gM w _)⟩;have h2:=gM (w.alloc (N #[c0,c1,c2,c3,c4,c5] 150)) (N #[ZC ZA,J I 0,U ⟨#[]⟩] 156);rw[show(w.alloc (N #[c0,c1,c2,c3,c4,c5] 150)).heap.size=A (z w)+1 by simp] at h2;exact h2
def xa (w0:E)(S:Spc)(mb mp:Nat)(s0 s1:ZB)(making:List ByteArray)(made:List Ent)(G:ByteArray->Nat)(V:ByteArray->ZB)(w:E)(l tg:Nat)(nm name:ByteArray)(j:List Lk)(v:ZB)(e:Ending)(w':E):Out Ent->Prop
 |.inl (made',x)=>e=ZF (ZG #[ZC (decide (¬ x.L=2)),J I x.M,U x.H])/\∃b h f g i,RepSt w0 S mb mp s0 s1 w w' making made' b h f g l tg nm (j++[⟨name,ZD,ZA⟩]) v i/\Ext (A (z w)) made made' G b V h
 |.inr (.inl c)=>∃v,e=.panicked [{ v:=.iface 236 (ZG #[v]),recovered:=ZA }]/\w'.ownsRow (A (z w0)) 9 1 v c.length (bA c)/\Below (A (z w0)) w w'
 |.inr (.inr d)=>e=.panicked [{ v:=.iface 238 (ZG #[U d]),recovered:=ZA }]/\Below (A (z w0)) w w'
set_option linter.unusedVariables false in
theorem rT:(∀(C:Ctx w0 S a0 c0 a1 c1) (w:E) (f tg:Nat) (nm:ByteArray) (b:List Lk) (v:ZB) (ZL:Turn) (h:MI w0 S mb mp (Y a0 S.n0 c0) (Y a1 S.n1 c1) w making making made G V mk md) (ZS:EU w0 S w f nm tg G b v made V) (Bk:b.length<=200) (y:ZL.ask=ZA),Calls Pg 218 #[.pointer (T (Q mb 0 Z)),.pointer (T (Q f 0 Z)),ZL.v] w λe w'=>e=ZF (ZG #[ZC (fo S ZL.e),J I 0,U ⟨#[]⟩])/\∃v',RepSt w0 S mb mp (Y a0 S.n0 c0) (Y a1 S.n1 c1) w w' making made G V mk md f tg nm (b++[⟨ZL.e,ZA,fo S ZL.e⟩]) v v')/\(∀(C:Ctx w0 S a0 c0 a1 c1) (n:Nat) (HL:js w0 S mb mp (Y a0 S.n0 c0) (Y a1 S.n1 c1) n) (w:E) (f tg:Nat) (nm:ByteArray) (b:List Lk) (v:ZB) (ZL:Turn) (At:making.length+n=60) (h:MI w0 S mb mp (Y a0 S.n0 c0) (Y a1 S.n1 c1) w making making made G V mk md) (hp:PG S making made) (ld:eB S making made 1) (ZS:EU w0 S w f nm tg G b v made V) (Bk:b.length<=200) (y:ZL.ask=ZD) (hn:aB ZL.e=ZD),Calls Pg 218 #[.pointer (T (Q mb 0 Z)),.pointer (T (Q f 0 Z)),ZL.v] w λe w'=>xa w0 S mb mp (Y a0 S.n0 c0) (Y a1 S.n1 c1) making made G V w f tg nm ZL.e b v e w' (aP S n making made ZL.e)):=by
 refine⟨λC w f tg nm b v ZL h ZS Bk y=>?_,λC n HL w f tg nm b v ZL At h hp ld ZS Bk y hn=>?_⟩;focus
  obtain⟨i1,hi,sm,qr,ur⟩:=pU wX;obtain⟨s,r,rfl⟩:=bH ZS.row;obtain⟨over,code,text,ask,name,steps⟩:=ZL;simp only at y;subst y;obtain⟨ZR,ph,ZO,ro,kr,-⟩:=wZ w (ZC over) (J I code) (U text) (ZC ZA) (U name) (J I steps);have P:=ae (h.aa ZR ly);have U0:=ae (ZS.aa ZR ly);have CC:=ae C;have t:A (z w0)<=A (z w):=h.lt;have Hd:f<A (z w):=by obtain⟨⟨aa,ca,j,ha⟩,-⟩:=ZS;exact ah j
  have GS:Hid (T (A (z w)+1)≠(Value.slice s b.length r).ownBlock):=λe=>by have:=(af ZS.row _ e.symm).2.1;omega
  have TN:Hid (T (A (z w))≠(Value.slice s b.length r).ownBlock):=λe=>by have:=(af ZS.row _ e.symm).2.1;omega
  clear h ZS C;show Calls Pg 218 #[.pointer (T (Q mb 0 Z)),.pointer (T (Q f 0 Z)),ZG #[ZC over,J I code,U text,ZC ZA,U name,J I steps]] w _;obtain⟨hb,n6⟩:∃hb,hb=fo S name:=⟨_,rfl⟩
  have Hj:=ae n6;rw[<-n6];clear n6;go_enter func218,ntmps218;go_wp2_with fail;clear ph;generalize World.alloc (World.alloc w _) _=W0 at ZR ZO ro kr P U0 ⊢;obtain⟨la,m0,m1,-⟩:=P.l.D;refine wp_region_held_drew (S:=λV=>B V (Q mb 0 Z)=T (Y a0 S.n0 c0)/\B V (Q mb 1 Z)=T (Y a1 S.n1 c1)/\B V (Q (A (z w)) 4 Z)=T (U name)) (by kernel_rfl) ⟨m0,m1,ZO⟩ λhS=>?_;have D:=ae hS;clear hS
  iterate 6
   first|refine ba 0 (v:=?_) rfl rfl (by kernel_rfl) (λ_ _ _ h=>h) rfl ?_ D ?_|refine ba 4 (v:=?_) rfl rfl (by kernel_rfl) (λ_ _ _ h=>h) rfl ?_ D ?_
   rotate_left
   ·(rintro wz ⟨s0,s1,s2⟩;go_simp)
    (try with_reducible rfl)
   (try simp only[Act.put,nzL])
  refine aN (i:=6) rfl (by kernel_rfl) λK m=>?_;go_simp;go_at_call 120;have n8:Hid (Below (A (z w0)) w0 W0.drew):=P.ak.drew;refine(qA a0 S.n0 c0 S.f0 a1 S.n1 c1 S.f1 name _ (by have:=CC.ok.av;omega) (by have:=CC.ok.av;omega) (CC.src.aa n8 ly) (CC.w.aa n8 ly) CC.ok.asc0 CC.ok.asc1).mono ?_;rintro e g ⟨he,hB⟩;rw[show(aG (nm0 S.f0) S.n0 name || aG (nm1 S.f1) S.n1 name)=hb from Hj.symm] at he;subst he;have H:Hid (Below (A (z W0)) W0 g):=⟨hB.os,hB.tape,hB.output,hB.size,hB.block⟩
  clear hB n8;have DQ:A (z w)<A (z W0):=by omega
  refine m _ _ ⟨(H.cell (p:=(Q mb 0 Z)) la).trans m0,(H.cell (p:=(Q mb 1 Z)) la).trans m1,(H.cell (p:=(Q (A (z w)) 4 Z)) DQ).trans ZO⟩ ?_;clear m K D;have D:Hid (B g (Q mb 0 Z)=T (Y a0 S.n0 c0)/\B g (Q mb 1 Z)=T (Y a1 S.n1 c1)/\B g (Q (A (z w)) 4 Z)=T (U name)):=⟨(H.cell (p:=(Q mb 0 Z)) la).trans m0,(H.cell (p:=(Q mb 1 Z)) la).trans m1,(H.cell (p:=(Q (A (z w)) 4 Z)) DQ).trans ZO⟩
  (try simp only[Act.put,nzL])
  refine ba 7 (v:=?_) rfl rfl (by kernel_rfl) (λ_ _ _ h=>h) rfl ?_ D ?_;rotate_left
  ·(rintro wz ⟨s0,s1,s2⟩;go_simp)
   (try with_reducible rfl)
  (try simp only[Act.put,nzL])
  refine wpAnyH_done (by kernel_rfl) ?_ _;have A1:=ae (ZR.trans (H.mono ZR.size));have KW:=ae (KX.q (X:=XN) A1 ly t);have M1:=ae (P.aa H ly);have U1:=ae (U0.aa H ly);have n4:=D.2.2;have DE:Hid (g.heap[A (z w)+1]?=T (N #[ZC ZA,J I 0,U ⟨#[]⟩] 156 (0,0))):=(H.block _ (by omega)).trans kr;have Hg:A (z w)+2<=A (z g):=by have:=H.size;omega
  clear D m0 m1 ZO P U0 kr ZR;go_wp2_with fail;obtain⟨o,ZM⟩:∃x,x=made:=⟨_,rfl⟩
  subst ZM;obtain⟨L,ZM⟩:∃x,x=G:=⟨_,rfl⟩
  subst ZM;obtain⟨V',ZM⟩:∃x,x=V:=⟨_,rfl⟩
  subst ZM;obtain⟨aq,ZM⟩:∃x,x=mk:=⟨_,rfl⟩
  subst ZM;obtain⟨ex,ZM⟩:∃x,x=md:=⟨_,rfl⟩
  subst ZM;have MH:=True.intro;obtain⟨lk,mv⟩:∃l:Lk,l=⟨name,ZA,hb⟩:=⟨_,rfl⟩
 rotate_left;focus
  obtain⟨i1,hi,sm,qr,ur⟩:=pU wX;obtain⟨s,r,rfl⟩:=bH ZS.row;obtain⟨over,code,text,ask,name,steps⟩:=ZL;simp only at y hn;subst y;obtain⟨ZR,ph,ZO,ro,kr,kt⟩:=wZ w (ZC over) (J I code) (U text) (ZC ZD) (U name) (J I steps);have P:=ae (h.aa ZR ly);have U0:=ae (ZS.aa ZR ly);have CC:=ae C;have Hf:=ae HL;have PP:=ae hp;have t:A (z w0)<=A (z w):=h.lt;have Hd:f<A (z w):=by obtain⟨⟨aa,ca,j,ha⟩,-⟩:=ZS;exact ah j
  have GS:Hid (T (A (z w)+1)≠(Value.slice s b.length r).ownBlock):=λe=>by have:=(af ZS.row _ e.symm).2.1;omega
  have TN:Hid (T (A (z w))≠(Value.slice s b.length r).ownBlock):=λe=>by have:=(af ZS.row _ e.symm).2.1;omega
  clear h ZS C HL hp;show Calls Pg 218 #[.pointer (T (Q mb 0 Z)),.pointer (T (Q f 0 Z)),ZG #[ZC over,J I code,U text,ZC ZD,U name,J I steps]] w _;obtain⟨R,hR⟩:∃R,R=aP S n making made name:=⟨_,rfl⟩
  have HR:=ae hR;simp only;rw[<-hR];clear hR;go_enter func218,ntmps218;go_wp2_with fail;clear ph ZO;generalize World.alloc (World.alloc w _) _=W0 at ZR ro kr kt P U0 ⊢;refine(Hf making made G V mk md W0 name At P PP ld hn).mono ?_;intro e g ZT;rw[<-HR.out] at ZT;rcases R with ⟨o,x⟩|c|d;rotate_left
  ·obtain⟨u,rfl,h1,h2⟩:=ZT
   go_wp2_with fail;exact⟨rfl,u,rfl,h1,(ZR.mono t).trans h2⟩
  ·obtain⟨rfl,h2⟩:=ZT
   go_wp2_with fail;exact⟨rfl,rfl,(ZR.mono t).trans h2⟩
  obtain⟨L,V',aq,ex,rfl,hM,hE,m⟩:=ZT;obtain⟨Hk,-,hx,n9⟩:=cX CC.ok n making made name o x PP hn HR.symm;have M1:=ae hM;have U1:=ae (U0.step m hE);have E1:=ae (hE.mono (show (A (z w))<=A (z W0) by omega));have KW:=ae ((KX.q (X:=XN) ZR ly t).to m);have HX:=ae hx;have Ha:=ae n9;have Hg:A (z w)+2<=A (z g):=by have:=m.aa.size;omega
  have DE:Hid (g.heap[A (z w)+1]?=T (N #[ZC ZA,J I 0,U ⟨#[]⟩] 156 (0,0))):=(m.ab _ _ _ _ kr (by decide) (by decide) (by decide) λh=>h).trans kr;have Fd:=(m.ab _ _ _ _ kt (by decide) (by decide) (by decide) λh=>h).trans kt;have n4:B g (Q (A (z w)) 4 Z)=T (U name):=by simp[World.cell?,Fd]
  rw[n9];clear hM hE m hx n9 Hk Fd P U0 kr kt;go_wp2_with fail;obtain⟨lk,mv⟩:∃l:Lk,l=⟨name,ZD,ZA⟩:=⟨_,rfl⟩
 all_goals
  obtain⟨⟨aa,ca,j,ha⟩,-⟩:=U1.out;obtain⟨Fk,-,-,-,-,-,-,e6,-,ef⟩:=j.D;have ef6:=ef 6;have hebB:A (z w0)<=f:=U1.ge;clear j ha ef;have SQ:Hid (∀V:E,(∀k,k<A (z g)->T k≠(Value.slice s b.length r).ownBlock->V.heap[k]?=g.heap[k]?)->B V (Q f 6 Z)=T (Y s b.length r)/\B V (Q (A (z w)) 4 Z)=T (U name)):=λV hV=>by
   have ZI:T f≠(Value.slice s b.length r).ownBlock:=λe=>by obtain⟨⟨aa,ca,j,ha⟩,-⟩:=U1.out;obtain⟨_,_,cs,hc⟩:=af U1.row f e.symm;exact absurd (ai j hc) (by decide)
   have He:T (A (z w))≠(Value.slice s b.length r).ownBlock:=TN.out;exact⟨(cq (a:=(Q f 6 Z)) (hV f Fk ZI)).trans e6,(cq (a:=(Q (A (z w)) 4 Z)) (hV (A (z w)) (by omega) He)).trans n4⟩
  have D:=ae (SQ g.drew (λk ZN _=>rfl));have UD:Hid (EU w0 S g.drew f nm tg L b (Y s b.length r) o V'):=U1.aa br.drew ly;have MD:Hid (MI w0 S mb mp (Y a0 S.n0 c0) (Y a1 S.n1 c1) g.drew making making o L V' aq ex):=M1.aa br.drew ly;refine aH (λV=>B V (Q f 6 Z)=T (Y s b.length r)/\B V (Q (A (z w)) 4 Z)=T (U name)) 14 (by kernel_rfl) ?_;clear e6 n4
  iterate 10
   first|refine aK 0 (v:=?_) rfl rfl (by kernel_rfl) (λ_ _ _ h=>h) rfl ?_ D ?_|refine aK 5 (v:=?_) rfl rfl (by kernel_rfl) (λ_ _ _ h=>h) rfl ?_ D ?_
   rotate_left
   ·(rintro wz ⟨s0,s1⟩;go_simp)
    (try with_reducible rfl)
   (try simp only[Act.put,nzL])
  refine aj (i:=10) rfl (by kernel_rfl) λK m=>?_;go_simp;first|(guard_hyp MH;have AB:=ae ((cM (A (z g)) g.drew).alloc ly (N #[U name,ZC ZA,ZC hb,J I 0,.pointer Z] 200)))|have AB:=ae ((cM (A (z g)) g.drew).alloc ly (N #[U name,ZC ZD,ZC ZA,J I 0,.pointer (T (Q (L name) 0 Z))] 200))
  have UA:=ae (UD.aa AB ly);have MA:=ae (MD.aa AB ly);refine m _ _ (λ_=>SQ _ (λk ZN _=>AB.block k ZN)) ?_;clear m K
  (try simp only[Act.put,nzL])
  refine aj (i:=11) rfl (by kernel_rfl) λK m=>?_;first|(guard_hyp MH;refine aW rfl (.tmp 23) (.tmp 29) 135 rfl (A (z w0)) 200 i1 (ZG #[U ⟨#[]⟩,ZC ZA,ZC ZA,J I 0,.pointer Z]) 5 40 underlying135 hi sm qr ur rfl (by decide) (Y s b.length r) b.length (fc L b) (by simp[Act.eval]) UA.row (Q (A (z g)) 0 Z) 1 1 [U name,ZC ZA,ZC hb,J I 0,.pointer Z] (by simp[Act.eval]) rfl (wY g.drew _ _ _ _ _ _) (by simp[Value.oneCell']) (by unfold maxLen;omega) (by omega) MA.lt ?_)|refine aW rfl (.tmp 43) (.tmp 49) 135 rfl (A (z w0)) 200 i1 (ZG #[U ⟨#[]⟩,ZC ZA,ZC ZA,J I 0,.pointer Z]) 5 40 underlying135 hi sm qr ur rfl (by decide) (Y s b.length r) b.length (fc L b) (by simp[Act.eval]) UA.row (Q (A (z g)) 0 Z) 1 1 [U name,ZC ZD,ZC ZA,J I 0,.pointer (T (Q (L name) 0 Z))] (by simp[Act.eval]) rfl (wY g.drew _ _ _ _ _ _) (by simp[Value.oneCell']) (by unfold maxLen;omega) (by omega) MA.lt ?_
  intro v' w3 fd O Fm;have O3:=ae fd;have G3:=ae O;have th:=ae Fm;have S3:=ae (SQ w3 (λk ZN ZI=>(O.block k (lj ZN (by simp<;>omega)) ZI).trans (AB.block k ZN)));obtain⟨ZQ,ZP,rfl⟩:=bH fd;clear fd O Fm;refine m _ _ (λ_=>S3) ?_;clear m K D
  (try simp only[Act.put,nzL])
  iterate 2
   refine bU 12 rfl rfl (by kernel_rfl) λK m=>?_;go_simp;refine m _ _ (λ_=>S3) ?_;clear m K
   (try simp only[Act.put,nzL])
  have M4:=ae (MA.tied UA G3 (v':=Y ZQ (b.length+1) ZP));first|(guard_hyp MH;have U4:=ae (UA.tied (l:=⟨name,ZA,hb⟩) (λh=>by cases h) G3.out O3.out th.out MA.vlt))|have U4:=ae (UA.tied (l:=⟨name,ZD,ZA⟩) (λ_=>⟨x,HX,Ha⟩) G3 O3 th MA.vlt)
  rw[<-mv] at U4;have s6:=S3.1;have Hh:w3.frozen? (Q f 6 Z)=ZA:=by
   obtain⟨⟨aa,ca,j,ha⟩,-⟩:=UA.out;have ZI:T f≠(Value.slice s b.length r).ownBlock:=λe=>by obtain⟨_,_,cs,hc⟩:=af UA.row f e.symm;exact absurd (ai j hc) (by decide)
   exact(KM (a:=(Q f 6 Z)) (G3.block f (ah j) ZI)).trans (j.D.2.2.2.2.2.2.2.2.2 6)
  have Hi:A (z g)<=A (z w3):=nL (by simp<;>omega) G3.size;have hel3:f<A (z w3):=lj Fk Hi;refine aj (i:=14) rfl (by kernel_rfl) λK m=>?_;go_simp;refine m _ _ (λh=>absurd rfl h) ?_;clear m K s6 Hh
  (try simp only[Act.put,nzL])
  refine be (by kernel_rfl) ?_ _;have RB:Hid ((w3.setCell (Q f 6 Z) (Y ZQ (b.length+1) ZP)).heap[A (z w)+1]?=T (N #[ZC ZA,J I 0,U ⟨#[]⟩] 156 (0,0))):=(qh _ _ _ _ (show (A (z w))+1≠f by omega)).trans ((G3.block _ (lj (show (A (z w))+1<A (z g) by omega) (by simp<;>omega)) GS).trans ((AB.block _ (by omega)).trans DE));have W:Hid (RepSt w0 S mb mp (Y a0 S.n0 c0) (Y a1 S.n1 c1) w (w3.setCell (Q f 6 Z) (Y ZQ (b.length+1) ZP)) making o L V' aq ex f tg nm (b++[lk]) (Y s b.length r) (Y ZQ (b.length+1) ZP)):=by
   refine⟨M4.1,U4,?_,λk ZN=>?_⟩
   ·exact((KW.to (KX.q (X:=XN) (⟨AB.os,AB.tape,AB.output,AB.size,AB.block⟩:Below (A (z g)) g _) ly (by omega))).weak).trans M4.2 λ_ _ h=>h
   ·rcases th.out with e|e
    ·exact .inl (by rw[<-e];exact ZN)
    ·rw[e] at ZN
     cases ZN
     exact .inr (nL (show (A (z w))<=A (z g) by omega) (by simp<;>omega))
  generalize World.setCell w3 _ _=W4 at RB W ⊢;obtain⟨rl,r0,r1,r2,M⟩:=dC RB;have G8:=M 0;have DS:=M 1;have Hb:=M 2;subst mv
 focus
  clear M M4 U4;have EX:=ae (W.1.W x HX);obtain⟨act,j,ZK⟩:=EX.ab;rw[Ha.out] at j;obtain⟨q,q0,q1,q2,q3,q4,q5,-,-,-⟩:=j.D;obtain⟨aa,na,ca,rfl⟩:∃a n c,act=Y a n c:=by
   unfold nA at ZK;split at ZK
   ·obtain⟨_,a,c,e,_⟩:=ZK;exact⟨a,_,c,e⟩
   ·exact⟨_,_,_,ZK⟩
  clear j ZK;go_wp2_with fail;refine(rj ⟨name,x.L,x.M,x.H,na,λ_=>⟨0,⟨#[]⟩,0⟩,0,λ_=>⟨⟨#[]⟩,ZA,ZA,0⟩⟩ aa ca Z 0 W4).mono ?_;rintro e w5 ⟨rfl,ZJ⟩;have Hc:Hid (w5.heap[A (z w)+1]?=T (N #[ZC ZA,J I 0,U ⟨#[]⟩] 156 (0,0))):=(ZJ.block _ rl).trans RB;have R5:Hid (RepSt w0 S mb mp (Y a0 S.n0 c0) (Y a1 S.n1 c1) w w5 making o L V' aq ex f tg nm (b++[⟨name,ZD,ZA⟩]) (Y s b.length r) (Y ZQ (b.length+1) ZP)):=⟨W.1.aa ZJ ly,W.2.1.aa ZJ ly,W.2.2.1.to (KX.q ZJ ly W.1.lt),W.2.2.2⟩
  clear r0 r1 r2 G8 DS Hb q0 q1 q2 q3 q4 q5 ZJ;obtain⟨rl5,r0,r1,r2,M⟩:=dC Hc;have G8:=M 0;have DS:=M 1;have Hb:=M 2;clear M;obtain⟨kb,n7⟩:∃kb,kb=decide (¬ x.L=2):=⟨_,rfl⟩
  have Hl:=ae n7;simp only;rw[<-n7];clear n7;go_wp2_with fail;refine bp (v:=ZG #[ZC kb,J I x.M,U x.H]) (by simp[results,results218,go_sem,r0,r1,r2]) rfl ?_;show xa w0 S mb mp (Y a0 S.n0 c0) (Y a1 S.n1 c1) making made G V w f tg nm name b (Y s b.length r) _ _ (.inl (o,x));refine⟨by rw[Hl.out],L,V',aq,ex,Y ZQ (b.length+1) ZP,?_,E1⟩;have X0:=R5.set Hc.out (by decide) t (D0 _) 0 (ZC kb);have X1:=X0.1.set X0.2 (by decide) t (D0 _) 1 (J I x.M);have X2:=X1.1.set X1.2 (by decide) t (D0 _) 2 (U x.H);exact X2.1
 focus
  clear M M4 U4;go_wp2_with fail;refine bp (v:=ZG #[ZC hb,J I 0,U ⟨#[]⟩]) (by simp[results,results218,go_sem,r0,r1,r2]) rfl ⟨rfl,Y ZQ (b.length+1) ZP,?_⟩;have X0:=W.set RB.out (by decide) t (D0 _) 0 (ZC hb);have X1:=X0.1.set X0.2 (by decide) t (D0 _) 1 (J I 0);have X2:=X1.1.set X1.2 (by decide) t (D0 _) 2 (U ⟨#[]⟩);exact X2.1
end
theorem Dt (f g cnt cap:Nat)(w:E):Calls Pg 136 #[ZG #[Y (T (Q f g Z)) cnt cap]] w λe w'=>∃b,e=ZF (.func (.func 166) #[] #[.pointer (T (Q b 0 Z))])/\(A (z w))<=b/\MAt w' b (Y (T (Q f g Z)) cnt cap) m0/\(∃h,w'.heap[b]?=T (N h 253 (0,0)))/\Below (A (z w)) w w':=by
 have i:=ae ((BS w).alloc ly (N #[Y (T (Q f g Z)) cnt cap] 43));have k0:(w.alloc (N #[Y (T (Q f g Z)) cnt cap] 43)).cell? (Q (A (z w)) 0 Z)=T (Y (T (Q f g Z)) cnt cap):=by simp
 have z0:(w.alloc (N #[Y (T (Q f g Z)) cnt cap] 43)).heap.size=A (z w)+1:=by simp
 have j:=ae (ue (w.alloc (N #[Y (T (Q f g Z)) cnt cap] 43)) (T (Q f g Z)) cnt cap);have l:=ae (by have:=j.out;rw[z0] at this;exact this);have n:=ae (i.alloc i.size (N (fa (Y (T (Q f g Z)) cnt cap)) 253));have m:Hid (∃h,((w.alloc (N #[Y (T (Q f g Z)) cnt cap] 43)).alloc (N (fa (Y (T (Q f g Z)) cnt cap)) 253)).heap[A (z w)+1]?=T (N h 253 (0,0))):=by have h2:=gM (w.alloc (N #[Y (T (Q f g Z)) cnt cap] 43)) (N (fa (Y (T (Q f g Z)) cnt cap)) 253);rw[z0] at h2;exact⟨_,h2⟩
 go_enter func136,ntmps136
 go_wp2_with (first
  |(refine ug rfl 253 #[(1,.tmp 5)] rfl [(1,Y (T (Q f g Z)) cnt cap)] (fa (Y (T (Q f g Z)) cnt cap)) (by simp[Act.eval]) (zL _ _ _) ?_)
  |(refine wpList_store_row rfl 253 (.tmp 3) (.tmp 6) rfl (A (z w)+1) (fa (Y (T (Q f g Z)) cnt cap)) rfl rfl _ _ (by rw[<-z0];exact heap_alloc_last _ _) (infoM.trans (by rw[iL])) (by rw[iL];rfl) (rE _ _ _) ?_;rw[<-z0,World.setRow_alloc_new])
  |fail)
 go_ret;exact⟨_,rfl,by first|(simp;done)|(simp;omega),l,m,n⟩
section
variable {w0 w w':E}{S:Spc}{mb mp:Nat}{s0 s1 mk md:ZB}{cnt nk np:Nat}{F:List UInt8->Option ZB}{ks ps:List ZB}{made:List Ent}{G:ByteArray->Nat}{V:ByteArray->ZB}
theorem MIg.ac{j:Array ZB}{fz:Nat × Nat}(h:MIg w0 S mb mp s0 s1 w cnt F nk ks np ps made G V mk md)(hb:w.heap[b]?=T (N j t fz))(ZS:uJ t)(s:A (z w0)<=b)(m:Only b w w'):MIg w0 S mb mp s0 s1 w' cnt F nk ks np ps made G V mk md:=by
 have r:KX (A (z w0)) (λi=>i=b) w w':=KX.of_only m rfl h.lt s;obtain⟨ZT,ZR,u,C,y⟩:=ZS;refine h.kx r (λi o hi n=>m.block i (ah hi) n) (λe=>?_) (λe=>?_) (λk f e=>?_) (λk f e=>?_) λx q=>⟨λe=>?_,λk f e=>?_⟩
 {subst e;exact u (ai hb h.l)};{obtain⟨es,c,p⟩:=h.map.isMap;rw[e,hb] at p;cases p};{subst e;obtain⟨_,_,j,g⟩:=af h.rmk _ f;exact ZT (ai hb g)};{subst e;obtain⟨_,_,j,g⟩:=af h.ag _ f;exact ZR (ai hb g)};{obtain⟨act,l,_⟩:=(h.W x q).ab;rw[e] at l;exact C (ai hb l)};{subst e;obtain⟨_,_,j,g⟩:=af (h.W x q).row _ f;exact y (ai hb g)}
theorem EU.ac{n:List Lk}{v:ZB}{g:Array ZB}{fz:Nat × Nat}(h:EU w0 S w o nm tg G n v made V)(hb:w.heap[b]?=T (N g t fz))(u:uJ t)(l:Only b w w'):EU w0 S w' o nm tg G n v made V:=by
 obtain⟨⟨a,cap,f,q⟩,m,i,s,j,has⟩:=h;obtain⟨t1,t2,t3,ZS,r⟩:=u;refine⟨⟨a,cap,(l.block _ (ah f) λe=>?_).trans f,q⟩,m,bO i λk p=>?_,s,j,has⟩;{subst e;exact ZS (ai hb f)};{obtain⟨_,y,g,x⟩:=af i _ p;exact l.block k y λe=>r (ai hb (e ▸ x))}
theorem MIg.entOnly{j:Array ZB}{fz:Nat × Nat}(h:MIg w0 S mb mp s0 s1 w cnt F nk ks np ps made G V mk md)(hb:w.heap[g]?=T (N j 137 fz))(s:∀x∈made,G x.e≠g)(r:A (z w0)<=g)(l:Only g w w'):MIg w0 S mb mp s0 s1 w' cnt F nk ks np ps made G V mk md:=by
 have q:KX (A (z w0)) (λi=>i=g) w w':=KX.of_only l rfl h.lt r;refine h.kx q (λi o hi m=>l.block i (ah hi) m) (λe=>?_) (λe=>?_) (λk b e=>?_) (λk b e=>?_) λx p=>⟨λe=>s x p e,λk b e=>?_⟩
 {subst e;exact absurd (ai hb h.l) (by decide)};{obtain⟨es,c,n⟩:=h.map.isMap;rw[e,hb] at n;cases n};{subst e;obtain⟨_,_,j,f⟩:=af h.rmk _ b;exact absurd (ai hb f) (by decide)};{subst e;obtain⟨_,_,j,f⟩:=af h.ag _ b;exact absurd (ai hb f) (by decide)};{subst e;obtain⟨_,_,j,f⟩:=af (h.W x p).row _ b;exact absurd (ai hb f) (by decide)}
end
theorem MAt.ab{w:E}{m:Mst}(h:MAt w b f m)(hb:w'.heap[b]?=w.heap[b]?)(i:A (z w)<=A (z w')):MAt w' b f m :=
 ⟨lj h.1 i,λj g=>⟨(cq (a:=(Q b j Z)) hb).trans (h.2 j g).1,(KM (a:=(Q b j Z)) hb).trans (h.2 j g).2⟩⟩
def TB (w:E)(g:Nat)(t:Turn):Prop:=w.heap[g]?=T (N #[ZC t.K,J I t.M,U t.H,ZC t.ask,U t.e,J I t.j] 150 (0,0))
theorem TB.D{w:E}{t:Turn}(h:TB w g t):g<A (z w)/\B w (Q g 0 Z)=T (ZC t.K)/\B w (Q g 1 Z)=T (J I t.M)/\B w (Q g 2 Z)=T (U t.H)/\B w (Q g 3 Z)=T (ZC t.ask)/\B w (Q g 4 Z)=T (U t.e)/\B w (Q g 5 Z)=T (J I t.j)/\∀j,w.frozen? (Q g j Z)=ZA:=by unfold TB at h;refine⟨ah h,?_,?_,?_,?_,?_,?_,λj=>?_⟩;all_goals simp[World.cell?,World.frozen?,h]
theorem TB.put{w:E}{u:Turn}(h:TB w g u)(t:Turn):TB (eN w g t) g t :=
 aw (aw (aw (aw (aw (aw h (j:=0) _) (j:=1) _) (j:=2) _) (j:=3) _) (j:=4) _) (j:=5) _
theorem TB.ac{w:E}{t:Turn}(h:TB w g t)(i:Only b w w')(f:g≠b):TB w' g t:=(i.block g (ah h) f).trans h
def ContOk (S:Spc)(tg:Nat)(b:List aC)(H:Halt):Prop:=∀(y:Nat->aC) (n:Nat),b.length<=n->(∀i,i<b.length->y i=yL b i)->ed (S.f1 tg).u (S.f1 tg).h y n H=bZ (S.f1 tg).u (S.f1 tg).h y n 2001 0 0 0 []
theorem ContOk.turn{S:Spc}{b:List aC}{H:Halt}{m:Mst}(h:ContOk S tg b H)(g:eK m H)(hL:gi b.length H):m.t=bG S tg b:=by rw[<-nM (f:=(S.f1 tg).u) (cnt:=(S.f1 tg).h) (y:=yL b) g hL];exact h (yL b) b.length ly λ_ _=>rfl
theorem ContOk.step{S:Spc}{b:List aC}{a:Bool}{s:List ByteArray}{st:Nat}{g:Halt}{r:aC}(h:ContOk S tg b (.inr (a,nm,s,p,st,(b.length+1))))(j:∀y n,b.length+1<=n->y (b.length+1 - 1)=r->ed (S.f1 tg).u (S.f1 tg).h y n (.inr (a,nm,s,p,st,(b.length+1)))=ed (S.f1 tg).u (S.f1 tg).h y n g):ContOk S tg (b++[r]) g:=by intro y n hn f;rw[eL,AT] at hn f;rw[<-j y n hn (by rw[NG,f _ (j4 _),Eu])];exact h y n (by omega) λi hi=>by rw[f i (by omega),zX b r hi]
structure RI (w0:E)(S:Spc)(mb mp:Nat)(s0 s1:ZB)(w:E)(n:Nat)(making:List ByteArray)(eb tg:Nat)(nm:ByteArray)(b:Nat)(cv:ZB)(tb:Nat)(made0:List Ent)(G0:ByteArray->Nat)(V0:ByteArray->ZB)(R0:Out (Turn × List Lk))(wr:E)(ys:List aC)(ls:List Lk)(made:List Ent)(G:ByteArray->Nat)(V:ByteArray->ZB)(mk md v:ZB)(m:Mst)(H:Halt):Prop where
 mi:MI w0 S mb mp s0 s1 wr making making made G V mk md
 pg:PG S making made
 rg:RG S made ys ls
 room:eB S making made (201 - ys.length)
 eu:EU w0 S wr eb nm tg G ls v made V
 ma:MAt wr b cv m
 ty:∃cs,wr.heap[b]?=T (N cs 253 (0,0))
 tb:TB wr tb m.t
 st:eK m H
 lk:gi ys.length H
 co:ContOk S tg ys H
 run:bR S (aP S n making) tg (201 - ys.length) made ys ls=R0
 le:ys.length<=200
 ext:Ext (A (z w)) made0 made G0 G V0 V
 kx:KX (A (z w0)) (λi=>i=eb) w wr
 vn:∀k,v.ownBlock=T k->A (z w)<=k
def FC (w0:E)(S:Spc)(mb mp:Nat)(s0 s1:ZB)(making:List ByteArray)(made:List Ent)(G:ByteArray->Nat)(V:ByteArray->ZB)(w:E)(f tg:Nat)(nm:ByteArray)(e:Ending)(w':E):Out (Turn × List Lk)->Prop
 |.inl (made',x)=>e=ZF (.tuple #[])/\∃b l g h j,MI w0 S mb mp s0 s1 w' making making made' b l g h/\EntAt w0 S b w' f j ⟨nm,3,x.1.M,x.1.H,tg,x.2⟩/\(∀y∈made',b y.e≠f)/\(∀k,j.ownBlock=T k->A (z w)<=k)/\Ext (A (z w)) made made' G b V l/\KX (A (z w0)) (λi=>i=f) w w'
 |.inr (.inl c)=>∃v,e=.panicked [{ v:=.iface 236 (ZG #[v]),recovered:=ZA }]/\w'.ownsRow (A (z w0)) 9 1 v c.length (bA c)/\Below (A (z w0)) w w'
 |.inr (.inr d)=>e=.panicked [{ v:=.iface 238 (ZG #[U d]),recovered:=ZA }]/\Below (A (z w0)) w w'
section
variable {w0:E}{S:Spc}{a0 a1:Option Addr}{c0 c1 mb mp:Nat}{making:List ByteArray}
theorem Du (C:Ctx w0 S a0 c0 a1 c1)(n:Nat)(HL:js w0 S mb mp (Y a0 S.n0 c0) (Y a1 S.n1 c1) n)(o:List Ent)(G0:ByteArray->Nat)(V0:ByteArray->ZB)(Ih Ie:ZB)(w:E)(r tg:Nat)(nm:ByteArray)(IJ:making.length+n=60)(h:MI w0 S mb mp (Y a0 S.n0 c0) (Y a1 S.n1 c1) w making making o G0 V0 Ih Ie)(hp:PG S making o)(Fm:eB S making o 201)(Iu:tg<S.n1)(hu:EU w0 S w r nm tg G0 [] (Y Z 0 0) o V0):Calls Pg 208 #[.pointer (T (Q mb 0 Z)),.pointer (T (Q r 0 Z))] w λe w'=>FC w0 S mb mp (Y a0 S.n0 c0) (Y a1 S.n1 c1) making o G0 V0 w r tg nm e w' (bR S (aP S n making) tg 201 o [] []):=by
 obtain⟨Hz,hc1,Il⟩:=bF (C.ok.u tg Iu);obtain⟨⟨av,cap,ZJ,aq⟩,Hb,Fd,mv,-,-⟩:=hu;obtain⟨R,ZL,rfl,Fk⟩:∃R ZL,av=T (Q R ZL Z)/\RowIns w0 R ZL (S.f1 tg).h (S.f1 tg).u:=by
  rcases aq with h|⟨b,off,e,hr⟩
  {omega};{exact⟨b,off,e,hr⟩}
 obtain⟨hel,-,-,-,-,e4,-,-,-,-⟩:=ZJ.D;have HU:Hid (EU w0 S w r nm tg G0 [] (Y Z 0 0) o V0):=⟨⟨_,_,ZJ,aq⟩,Hb,Fd,mv,λ_ _ k ZK=>(by cases ZK),λ_ hl=>absurd hl nj⟩
 have HM:=ae h;have HP:=ae hp;have HRI:=ae Fk;have CC:=ae C;have IQ:=ae HL;have L:A (z w0)<=A (z w):=h.lt;have DE:Hid (∀W b,Below (A (z w0)) w0 W->A (z w0)<=b->Env W b R ZL (S.f1 tg).h (S.f1 tg).u):=λW b hW hb=>⟨Fk.aa hW ly,C.tab.aa hW C.tab.1,C.pow.aa hW ly,lj Fk.1 hb,lj C.tab.1 hb,lj C.pow.lt hb⟩
 obtain⟨R0,Ig⟩:∃R0,R0=bR S (aP S n making) tg 201 o [] []:=⟨_,rfl⟩
 rw[<-Ig];have IP:=ae Ig;clear h hp Fk C HL ZJ aq Fd mv Ig;obtain⟨H0,Hh⟩:=rD (S.f1 tg).u (S.f1 tg).h 2001 0 0 0 [] (by omega) (by omega);have Iw:Hid (Goes (S.f1 tg).u (S.f1 tg).h m0 H0):=.inl ⟨rfl,0,0,0,[],⟨trivial,rfl,by simp,rfl,rfl,rfl,λx hx=>absurd hx nj,by omega,by omega,by omega⟩,Hh⟩;have Hl:=ae (λy n=>oG (S.f1 tg).u (S.f1 tg).h y n 2001 0 0 0 [] H0 (by omega) rfl Hh);clear Hh;go_enter func208,ntmps208;go_wp2_with fail;refine(Dt R ZL (S.f1 tg).h cap w).mono ?_;rintro e w1 ⟨b,rfl,hb,IE,Hq,ID⟩;have IB:=ae IE;have IC:=ae Hq;have B1:=ae ID;clear IE Hq ID e4;go_wp2_with fail;refine(pM b R ZL (S.f1 tg).h cap (S.f1 tg).u m0 H0 ⟨ZA,0,⟨#[]⟩⟩ _ IB (DE _ _ (HM.ak.trans (B1.mono L)) (nL L hb)) rfl (by omega) Hz Iw).mono ?_;rintro e w2 ⟨m1,rfl,Ip,Iv,ld⟩;have Ii:=ae Ip;have Im:=ae Iv;have O2:=ae ld;have It:Hid (∃ZT,w2.heap[b]?=T (N ZT 253 (0,0))):=by obtain⟨ZT,ZR⟩:=IC.out;exact ld.ty ZT _ _ ZR
 have I5:A (z w1)<=A (z w2):=ld.size;have B2:=ae (B1.trans (ld.aa hb B1.size));clear Ip Iv ld;simp only[Turn.v];obtain⟨W3,Bk⟩:∃W:E,w2.alloc (N #[ZC m1.t.K,J I m1.t.M,U m1.t.H,ZC m1.t.ask,U m1.t.e,J I m1.t.j] 150)=W:=⟨_,rfl⟩
 obtain⟨A3,-,-⟩:=nb1 Bk;have th:=ae Bk;clear Bk;have Ht:Hid (TB W3 (A (z w2)) m1.t):=by rw[<-th.out];exact gM _ _
 have sm:b<A (z w2):=Ii.lt;go_wp2;rw[th.out];clear th;obtain⟨tb,Iy⟩:∃tb,tb=A (z w2):=⟨_,rfl⟩
 rw[<-Iy] at Ht ⊢;have Ho:A (z w)<=tb:=by have:=B2.size;omega
 have hbtb:b<tb:=by omega
 have B3:=ae (B2.trans (A3.mono B2.size));have IG:Hid (RI w0 S mb mp (Y a0 S.n0 c0) (Y a1 S.n1 c1) w n making r tg nm b (Y (T (Q R ZL Z)) (S.f1 tg).h cap) tb o G0 V0 R0 W3 [] [] o G0 V0 Ih Ie (Y Z 0 0) m1 H0) :=
  ⟨HM.aa B3 ly,HP,gL S o,Fm,HU.aa B3 ly,Ii.aa A3 sm,(by obtain⟨ZT,ZR⟩:=It.out;exact⟨ZT,(A3.block b sm).trans ZR⟩),Ht,Im,(Hl (yL []) 0).2,λy n _ _=>(Hl y n).1.symm,IP.symm,IH _,Ext.refl _ _ _ _,KX.q B3 ly L,λk ZK=>(by cases ZK)⟩
 clear Iy Ht A3 B2 IB IC Ii It Im O2 Iw Hl B1 HM HU Fm HP B3 I5 sm;go_loopg [] 202 (λg wr=>∃p ZI made G V mk md v m H,Hid (RI w0 S mb mp (Y a0 S.n0 c0) (Y a1 S.n1 c1) w n making r tg nm b (Y (T (Q R ZL Z)) (S.f1 tg).h cap) tb o G0 V0 R0 wr p ZI made G V mk md v m H)/\201 - p.length<=g);case atStart=>exact⟨[],[],o,G0,V0,Ih,Ie,_,m1,H0,IG,by simp⟩
 case round =>
  clear IG;obtain⟨p,ZI,made,G,V,mk,md,v,m,H,f,hg⟩:=hrel;have HT:=ae (f.co.turn f.st f.lk);obtain⟨tbl,t0,t1,t2,t3,t4,t5,tf⟩:=f.tb.D;obtain⟨Id,Hg,Hr,Hi,Ik,Ia⟩:=al6 tf;clear tf;have hbw:A (z w)<=b:=hb;have Iz:r≠b:=by omega
  have ZM:r≠tb:=by omega
  cases ho:m.t.K with
  |true =>
   rw[ho] at t0;have IM:Hid (R0=.inl (made,(m.t,ZI))):=by show _=_;rw[<-f.run,show 201 - p.length=(200 - p.length)+1 by have:=f.le;omega,bR,<-HT.out,j6 ho]
   obtain⟨⟨ax,cx,ZJ,aq⟩,-⟩:=f.eu;obtain⟨hel2,-,-,e2,e3,-,-,-,-,ef⟩:=ZJ.D;have ef2:=ef 2;have ef3:=ef 3;have Hn:=ae ZJ;have IY:=ae aq;clear ZJ aq ef;obtain⟨code,ex⟩:∃code,code=m.t.M:=⟨_,rfl⟩
   obtain⟨text,bt⟩:∃text,text=m.t.H:=⟨_,rfl⟩
   rw[<-ex] at t1;rw[<-bt] at t2;have HC:=ae ex;have HX:=ae bt;clear ex bt;go_wp2_with fail;clear t0 t3 t4 t5 Id Hg Hr Hi Ik Ia;refine wp_region_held_drew (S:=λV=>B V (Q tb 1 Z)=T (J I code)/\B V (Q tb 2 Z)=T (U text)) (by as_aux_lemma=>kernel_rfl) ⟨t1,t2⟩ λhS=>?_;have HS:=ae hS;clear hS;iterate 9
    first|refine ba 0 (v:=?_) rfl rfl (by as_aux_lemma=>kernel_rfl) (λ_ _ _ h=>h) rfl ?_ HS ?_|refine ba 4 (v:=?_) rfl rfl (by as_aux_lemma=>kernel_rfl) (λ_ _ _ h=>h) rfl ?_ HS ?_
    rotate_left
    ·(rintro wz ⟨s0,s1⟩;go_simp)
     (try with_reducible rfl)
    (try simp only[Act.put,nzL])
   have S5:Hid ((wr.drew.setCell (Q r 2 Z) (J I code)).cell? (Q tb 1 Z)=T (J I code)/\(wr.drew.setCell (Q r 2 Z) (J I code)).cell? (Q tb 2 Z)=T (U text)):=⟨(cell_far _ _ _ _ ZM).trans HS.1,(cell_far _ _ _ _ ZM).trans HS.2⟩
   refine aN (i:=9) rfl (by as_aux_lemma=>kernel_rfl) λK hK=>?_;go_simp;refine hK _ _ S5 ?_;clear hK K HS
   (try simp only[Act.put,nzL])
   have HS:=S5;iterate 3
    refine ba 10 (v:=?_) rfl rfl (by as_aux_lemma=>kernel_rfl) (λ_ _ _ h=>h) rfl ?_ HS ?_;rotate_left
    ·(rintro wz ⟨s0,s1⟩;go_simp)
     (try with_reducible rfl)
    (try simp only[Act.put,nzL])
   have S6:Hid (((wr.drew.setCell (Q r 2 Z) (J I code)).setCell (Q r 3 Z) (U text)).cell? (Q tb 1 Z)=T (J I code)/\((wr.drew.setCell (Q r 2 Z) (J I code)).setCell (Q r 3 Z) (U text)).cell? (Q tb 2 Z)=T (U text)):=⟨(cell_far _ _ _ _ ZM).trans S5.1,(cell_far _ _ _ _ ZM).trans S5.2⟩
   refine aN (i:=13) rfl (by as_aux_lemma=>kernel_rfl) λK hK=>?_;go_simp;refine hK _ _ S6 ?_;clear hK K
   (try simp only[Act.put,nzL])
   refine wpAnyH_done (by as_aux_lemma=>kernel_rfl) ?_ _;have OE:Hid (Only r wr ((wr.setCell (Q r 2 Z) (J I code)).setCell (Q r 3 Z) (U text)).drew):=(ce (ce (Only.refl r wr) 2 _) 3 _).drew;have II:Hid (EntBlk ((wr.setCell (Q r 2 Z) (J I code)).setCell (Q r 3 Z) (U text)).drew r nm 3 code text (Y ax (S.f1 tg).h cx) v 0):=aw (aw Hn (j:=2) _) (j:=3) _;generalize World.drew (World.setCell (World.setCell wr _ _) _ _)=W6 at OE II ⊢;go_end0;rw[IM.out];refine⟨rfl,G,V,mk,md,v,f.mi.entOnly Hn f.eu.free Hb OE,⟨⟨_,by rw[<-HC.out,<-HX.out];exact II,by rw[nA,j6 rfl];exact⟨Iu,_,_,rfl,IY⟩⟩,Hb,bO f.eu.row λk ZK=>?_⟩,f.eu.free,f.vn,f.ext,f.kx.trans (KX.of_only (X:=λi=>i=r) OE rfl f.mi.lt Hb) (λ_ _ h=>h)⟩;obtain⟨_,hl,ZT,ZR⟩:=af f.eu.row k ZK;exact OE.block k hl λe=>absurd (ai Hn (e ▸ ZR)) (by decide)
  |false =>
   obtain⟨a,s,s2,pp,st,l,rfl⟩:=nN f.st ho;have el:l=p.length+1:=f.lk;subst el;obtain⟨G8,ur,Hu,-⟩:=f.st;have hylt:p.length<200:=by have:=ur.lk;omega
   have Io:=ae G8;rw[G8] at t0 t1 t2 t3 t4 t5;simp only at t0 t1 t2 t3 t4 t5;have HSM:=ae ur;have Hc:=ae Hu;have IA:Hid (bG S tg p=⟨ZA,0,⟨#[]⟩,a,s,st⟩):=HT.symm.trans G8;have IF:ZI.length<=200:=by have:=f.rg.len;omega
   clear G8 ur Hu;have DS:Hid (∀k,v.ownBlock=T k->k≠b/\k≠tb):=λk ZK=>by obtain⟨_,_,ZT,ZR⟩:=af f.eu.row k ZK;obtain⟨cs2,Il⟩:=f.ty;exact⟨λe=>absurd (ai Il (e ▸ ZR)) (by decide),λe=>absurd (ai (show wr.heap[tb]?=_ from f.tb) (e ▸ ZR)) (by decide)⟩
   cases a with
   |false =>
    go_wp2_with fail;clear t0 t1 t2 t3 t4 t5 Id Hg Hr Hi Ik Ia;refine(rT.1 CC wr r tg nm ZI v ⟨ZA,0,⟨#[]⟩,ZA,s,st⟩ f.mi f.eu IF rfl).mono ?_;rintro e w3 ⟨rfl,v',fd⟩;have ZQ:=ae fd;clear fd;obtain⟨M,At⟩:∃M,M=fo S s:=⟨_,rfl⟩
    have Iq:=ae At;simp only at ZQ ⊢;rw[<-At] at ZQ ⊢;clear At;have NX:Hid (bR S (aP S n making) tg (200 - p.length) made (p++[⟨M,0,⟨#[]⟩⟩]) (ZI++[⟨s,ZA,M⟩])=R0):=by show _=_;have:=f.run;rw[show 201 - p.length=(200 - p.length)+1 by omega,bR,IA.out,eT (by simp),j6 rfl,<-Iq.out] at this;exact this
    have Ic:=ae f.pg;have n8:Hid (RG S made (p++[⟨M,0,⟨#[]⟩⟩]) (ZI++[⟨s,ZA,M⟩])):=f.rg.add (by rw[Iq.out];exact kj _ _) Hc (λh=>by cases h);have Hf:Hid (eB S making made (200 - p.length)):=by have:=f.room;unfold eB at this ⊢;show _<=_;omega
    have Hj:=ae f.ext;have ro:Hid ((⟨M,0,⟨#[]⟩⟩:aC).H.size<=2000):=IH _;have BK:Hid (w3.heap[b]?=wr.heap[b]?):=by obtain⟨ZT,ZR⟩:=f.ty;exact ZQ.2.2.1.ab b _ _ _ ZR (by decide) (by decide) (by decide) λh=>by rcases h with h|h;exact Iz h.symm;exact(DS b h).1 rfl
    have TK:Hid (TB w3 tb ⟨ZA,0,⟨#[]⟩,ZA,s,st⟩):=by have h0:=f.tb;rw[Io.out] at h0;exact(ZQ.2.2.1.ab tb _ _ _ h0 (by decide) (by decide) (by decide) λh=>by rcases h with h|h;exact ZM h.symm;exact(DS tb h).2 rfl).trans h0
    have DQ:A (z wr)<=A (z w3):=ZQ.2.2.1.aa.size;have H6:=ae (f.ma.ab BK DQ);have Ib:Hid (∃ZT,w3.heap[b]?=T (N ZT 253 (0,0))):=by obtain⟨ZT,ZR⟩:=f.ty;exact⟨ZT,BK.trans ZR⟩
    go_wp2_with fail;refine(mC b R ZL (S.f1 tg).h cap (S.f1 tg).u m ZA s s2 pp st (p.length+1) ⟨M,0,⟨#[]⟩⟩ _ H6 (DE _ _ ZQ.1.ak (nL L hb)) f.st (by omega) ro (by omega) Hz).mono ?_;rintro e w4 ⟨P,H2,rfl,ph,qr,n7,n9,ZS⟩;have Ij:=ae ph;have Hd:=ae qr;have Hy:=ae n7;have Hp:=ae (f.co.step n9);have O4:=ae ZS;obtain⟨IW,ZP⟩:=Ib.out;have n6:=ae (ZQ.1.ac ZP (by decide) (nL L hb) ZS);have Hw:=ae (ZQ.2.1.ac ZP (by decide) ZS);have O:=ae (TK.ac ZS (by omega));have H7:=ae (ZS.ty _ _ _ ZP);have K4:=ae ((f.kx.trans ZQ.2.2.1 (λi hi h=>by rcases h with h|h;exact h;exact absurd (f.vn i h) (by omega))).trans (KX.of_only (X:=λi=>i=b) ZS rfl ZQ.1.lt (nL L hb)) (λi hi h=>by have e2:i=b:=h;omega));have H9:Hid (∀k,v'.ownBlock=T k->A (z w)<=k):=λk ZK=>by
     rcases ZQ.2.2.2 k ZK with h|h;{exact f.vn k h};{exact nL f.kx.aa.size h}
    clear ph qr n7 n9 ZS ZP;obtain⟨ul,u0,u1,u2,u3,u4,u5,uf⟩:=O.D;obtain⟨IL,IX,I6,IZ,IU,I8⟩:=al6 uf;clear uf;obtain⟨g,rfl⟩:∃g,gk=g+1:=⟨gk - 1,by omega⟩
    have Hv:=ae (O.put P.t);have OP:Hid (Only tb w4 (eN w4 tb P.t)):=oI P.t;have la:A (z w0)<=tb:=nL L Ho;have q:(p++[(⟨M,0,⟨#[]⟩⟩:aC)]).length=p.length+1:=by simp
    have He:Hid (RI w0 S mb mp (Y a0 S.n0 c0) (Y a1 S.n1 c1) w n making r tg nm b (Y (T (Q R ZL Z)) (S.f1 tg).h cap) tb o G0 V0 R0 (eN w4 tb P.t) (p++[⟨M,0,⟨#[]⟩⟩]) (ZI++[⟨s,ZA,M⟩]) made G V mk md v' P H2) :=
     ⟨n6.ac O (by decide) la OP,Ic,n8,(by rw[q,show 201 - (p.length+1)=200 - p.length by omega];exact Hf),Hw.ac O (by decide) OP,Ij.boxed (by omega) P.t,(by obtain⟨ZT,ZR⟩:=H7.out;exact⟨ZT,(OP.block b (ah ZR) (by omega)).trans ZR⟩),Hv,Hd,(by rw[q];exact Hy),Hp,(by rw[q,show 201 - (p.length+1)=200 - p.length by omega];exact NX),(by rw[q];omega),Hj,K4.trans (KX.of_only (X:=λi=>i=tb) OP rfl n6.lt la) (λi hi h=>by have e2:i=tb:=h;omega),H9⟩
    simp only[Turn.v];go_wp2;go_roundg g;case measure=>omega
    case rel=>exact⟨_,_,_,_,_,_,_,_,_,_,He,by rw[q];omega⟩
   |true =>
    go_wp2_with fail;clear t0 t1 t2 t3 t4 t5 Id Hg Hr Hi Ik Ia;refine(rT.2 CC n IQ wr r tg nm ZI v ⟨ZA,0,⟨#[]⟩,ZD,s,st⟩ IJ f.mi f.pg (by have:=f.room;unfold eB at this ⊢;omega) f.eu IF rfl Hc).mono ?_;intro e w3 ZO;simp only at ZO;have D:=f.run;rw[show 201 - p.length=(200 - p.length)+1 by omega,bR,IA.out,eT (by simp),eT (by simp)] at D;simp only at D;rcases hr:aP S n making made s with ⟨ZN,x⟩|c|d
    ·rw[hr] at ZO D;dsimp only at D;obtain⟨rfl,G2,V2,I7,IK,v',fd,Hx⟩:=ZO;obtain⟨GS,-,hx,Is⟩:=cX CC.ok n making made s ZN x f.pg Hc hr;have Ha:=gJ S n making made s ZN x hr;have ZQ:=ae fd;have NX:=ae D;have Ic:=ae GS;have Hk:fT x=⟨decide (¬ x.L=2),x.M,x.H⟩:=rfl;have n8:Hid (RG S ZN (p++[fT x]) (ZI++[⟨s,ZD,ZA⟩])):=(f.rg.mono Hx.mem).add (kl (GS.W x hx)) Hc (λ_=>⟨x,hx,Is⟩);have Hf:Hid (eB S making ZN (200 - p.length)):=by have:=f.room;unfold eB at this ⊢;unfold fx at Ha;show _<=_;omega
     have Hj:=ae (f.ext.trans Hx f.kx.aa.size);have ro:Hid ((fT x).H.size<=2000):=(GS.W x hx).tx;rw[Hk] at NX n8 ro;clear fd D GS hx Is Ha Hx hr Hk;obtain⟨kb,Ir⟩:∃kb,kb=decide (¬ x.L=2):=⟨_,rfl⟩
     rw[<-Ir] at NX n8 ro ⊢;clear Ir;have BK:Hid (w3.heap[b]?=wr.heap[b]?):=by obtain⟨ZT,ZR⟩:=f.ty;exact ZQ.2.2.1.ab b _ _ _ ZR (by decide) (by decide) (by decide) λh=>by rcases h with h|h;exact Iz h.symm;exact(DS b h).1 rfl
     have TK:Hid (TB w3 tb ⟨ZA,0,⟨#[]⟩,ZD,s,st⟩):=by have h0:=f.tb;rw[Io.out] at h0;exact(ZQ.2.2.1.ab tb _ _ _ h0 (by decide) (by decide) (by decide) λh=>by rcases h with h|h;exact ZM h.symm;exact(DS tb h).2 rfl).trans h0
     have DQ:A (z wr)<=A (z w3):=ZQ.2.2.1.aa.size;have H6:=ae (f.ma.ab BK DQ);have Ib:Hid (∃ZT,w3.heap[b]?=T (N ZT 253 (0,0))):=by obtain⟨ZT,ZR⟩:=f.ty;exact⟨ZT,BK.trans ZR⟩
     go_wp2_with fail;refine(mC b R ZL (S.f1 tg).h cap (S.f1 tg).u m ZD s s2 pp st (p.length+1) ⟨kb,x.M,x.H⟩ _ H6 (DE _ _ ZQ.1.ak (nL L hb)) f.st (by omega) ro (by omega) Hz).mono ?_;rintro e w4 ⟨P,H2,rfl,ph,qr,n7,n9,ZS⟩;have Ij:=ae ph;have Hd:=ae qr;have Hy:=ae n7;have Hp:=ae (f.co.step n9);have O4:=ae ZS;obtain⟨IW,ZP⟩:=Ib.out;have n6:=ae (ZQ.1.ac ZP (by decide) (nL L hb) ZS);have Hw:=ae (ZQ.2.1.ac ZP (by decide) ZS);have O:=ae (TK.ac ZS (by omega));have H7:=ae (ZS.ty _ _ _ ZP);have K4:=ae ((f.kx.trans ZQ.2.2.1 (λi hi h=>by rcases h with h|h;exact h;exact absurd (f.vn i h) (by omega))).trans (KX.of_only (X:=λi=>i=b) ZS rfl ZQ.1.lt (nL L hb)) (λi hi h=>by have e2:i=b:=h;omega));have H9:Hid (∀k,v'.ownBlock=T k->A (z w)<=k):=λk ZK=>by
      rcases ZQ.2.2.2 k ZK with h|h;{exact f.vn k h};{exact nL f.kx.aa.size h}
     clear ph qr n7 n9 ZS ZP;obtain⟨ul,u0,u1,u2,u3,u4,u5,uf⟩:=O.D;obtain⟨IL,IX,I6,IZ,IU,I8⟩:=al6 uf;clear uf;obtain⟨g,rfl⟩:∃g,gk=g+1:=⟨gk - 1,by omega⟩
     have Hv:=ae (O.put P.t);have OP:Hid (Only tb w4 (eN w4 tb P.t)):=oI P.t;have la:A (z w0)<=tb:=nL L Ho;have q:(p++[(⟨kb,x.M,x.H⟩:aC)]).length=p.length+1:=by simp
     have He:Hid (RI w0 S mb mp (Y a0 S.n0 c0) (Y a1 S.n1 c1) w n making r tg nm b (Y (T (Q R ZL Z)) (S.f1 tg).h cap) tb o G0 V0 R0 (eN w4 tb P.t) (p++[⟨kb,x.M,x.H⟩]) (ZI++[⟨s,ZD,ZA⟩]) ZN G2 V2 I7 IK v' P H2) :=
      ⟨n6.ac O (by decide) la OP,Ic,n8,(by rw[q,show 201 - (p.length+1)=200 - p.length by omega];exact Hf),Hw.ac O (by decide) OP,Ij.boxed (by omega) P.t,(by obtain⟨ZT,ZR⟩:=H7.out;exact⟨ZT,(OP.block b (ah ZR) (by omega)).trans ZR⟩),Hv,Hd,(by rw[q];exact Hy),Hp,(by rw[q,show 201 - (p.length+1)=200 - p.length by omega];exact NX),(by rw[q];omega),Hj,K4.trans (KX.of_only (X:=λi=>i=tb) OP rfl n6.lt la) (λi hi h=>by have e2:i=tb:=h;omega),H9⟩
     simp only[Turn.v];go_wp2;go_roundg g;case measure=>omega
     case rel=>exact⟨_,_,_,_,_,_,_,_,_,_,He,by rw[q];omega⟩
    {rw[hr] at ZO D;obtain⟨u,rfl,h1,h2⟩:=ZO;subst D;go_wp2_with fail;exact⟨rfl,u,rfl,h1,f.kx.aa.trans h2⟩};{rw[hr] at ZO D;obtain⟨rfl,h2⟩:=ZO;subst D;go_wp2_with fail;exact⟨rfl,rfl,f.kx.aa.trans h2⟩}
end
structure KS (ZT:Nat)(X:Nat->Prop)(w w':E):Prop where
 aa:Below ZT w w'
 ab:∀i cs t fz,w.heap[i]?=T (N cs t fz)->t≠9->t≠161->t≠89->¬ X i->w'.heap[i]?=w.heap[i]?
theorem KS.trans{ZI:Nat->Prop}{w b:E}(h:KS ZT X w w')(k:KS ZT ZI w' b)(g:∀i,i<A (z w)->ZI i->X i):KS ZT X w b :=
 ⟨h.aa.trans k.aa,λi f t fz hi h1 h2 j hX=>by
  have e:=h.ab i f t fz hi h1 h2 j hX;rw[<-e]
  exact k.ab i f t fz (e.trans hi) h1 h2 j λl=>hX (g i (ah hi) l)⟩
theorem KS.to{w b:E}(h:KS ZT X w w')(k:KS ZT XN w' b):KS ZT X w b:=h.trans k λ_ _ h=>h.elim
theorem KS.q{w:E}(h:Below C w w')(b:A (z w)<=C)(f:ZT<=A (z w)):KS ZT X w w' :=
 ⟨h.mono (nL f b),λi _ _ _ hi _ _ _ _=>h.block i (lj (ah hi) b)⟩
theorem KS.of_grown{row:Option Nat}{w:E}(h:w.grownBy w' row)(m:ZT<=A (z w))(g:∀j,row=T j->ZT<=j/\(X j∨∀b t fz,w.heap[j]?=T (N b t fz)->t=9∨t=161∨t=89)):KS ZT X w w':=by
 refine⟨⟨h.os,h.tape,h.output,h.size,λk l=>h.block k (lj l m) λe=>?_⟩,λi b t fz hi h1 h2 n hX=>h.block i (ah hi) λe=>?_⟩;{have:=(g k e.symm).1;omega};{rcases(g i e.symm).2 with f|f;{exact hX f};{rcases f b t fz hi with e|e|e;{exact h1 e};{exact h2 e};{exact n e}}}
theorem KS.setCell (w:E)(hb:ZT<=b)(f:X b∨∀g t fz,w.heap[b]?=T (N g t fz)->t=9∨t=161∨t=89)(v:ZB):KS ZT X w (w.setCell (Q b j Z) v):=by
 refine⟨(cM ZT w).setCell hb v,λi g t fz hi h1 h2 h hX=>?_⟩;refine qh _ _ _ _ λe=>?_;simp at e;subst e;rcases f with f|f;{exact hX f};{rcases f g t fz hi with e|e|e;{exact h1 e};{exact h2 e};{exact h e}}
def ShBox (w:E)(hb:Nat)(s0 s1 md or st:ZB)(g:Int)(sx:ByteArray)(f:ZB)(b:Bool):Prop:=w.heap[hb]?=T (N #[s0,s1,md,or,st,J I g,U sx,f,ZC b] 89 (0,0))
theorem ShBox.D{w:E}{s0 s1 md st:ZB}{g:Int}{b:Bool}(h:ShBox w hb s0 s1 md or st g sx f b):hb<A (z w)/\B w (Q hb 0 Z)=T s0/\B w (Q hb 1 Z)=T s1/\B w (Q hb 2 Z)=T md/\B w (Q hb 3 Z)=T or/\B w (Q hb 4 Z)=T st/\B w (Q hb 5 Z)=T (J I g)/\B w (Q hb 6 Z)=T (U sx)/\B w (Q hb 7 Z)=T f/\B w (Q hb 8 Z)=T (ZC b)/\∀j,w.frozen? (Q hb j Z)=ZA:=by unfold ShBox at h;refine⟨ah h,?_,?_,?_,?_,?_,?_,?_,?_,?_,λj=>?_⟩;all_goals simp[World.cell?,World.frozen?,h]
theorem ShBox.ab{w:E}{s0 s1 md st:ZB}{i:Int}{b:Bool}(h:ShBox w hb s0 s1 md or st i sx f b)(g:w'.heap[hb]?=w.heap[hb]?):ShBox w' hb s0 s1 md or st i sx f b:=g.trans h
structure SM where
 e:ByteArray
 M:Int
 H:ByteArray
 V:List Lk
 sv:ZB
 done:Bool
def smV (m:SM):List ZB:=[U m.e,J I m.M,U m.H,Y Z 0 0,m.sv,ZC m.done]
def eh (b:List Lk):List ZB:=b.flatMap λl=>[U l.e,ZC l.ask,ZC l.has]
def fI (L:List SM)(t:ByteArray):Option Nat:=L.findIdx? λm=>m.e.toList == t.toList
structure fq (L:List SM)(making:List ByteArray)(made:List Ent):Prop where
 nod:L.Pairwise λm m'=>m.e≠m'.e
 len:L.length=made.length+making.length
 got:∀x∈made,∃m∈L,m.e=x.e/\m.done=ZD/\m.M=(dk x).M/\m.H=(dk x).H/\m.V=x.looks
 mkg:∀t∈making,∃m∈L,m.e=t/\m.done=ZA
 all:∀m∈L,(∃x∈made,x.e=m.e)∨m.e∈making
structure SI (w0:E)(hb:Nat)(s0 s1:ZB)(w:E)(making:List ByteArray)(made:List Ent)(L:List SM)(md or st:ZB):Prop where
 ak:Below (A (z w0)) w0 w
 hbB:A (z w0)<=hb
 l:ShBox w hb s0 s1 md or st 0 ⟨#[]⟩ (Y Z 0 0) ZA
 ag:w.ownsRow (A (z w0)) 161 6 md L.length (L.flatMap smV)
 ror:w.ownsRow (A (z w0)) 9 1 or made.length (bA (made.map (·.e)))
 rst:w.ownsRow (A (z w0)) 9 1 st making.length (bA making)
 apart:∀k,or.ownBlock=T k->st.ownBlock≠T k
 V:∀m∈L,m.done=ZD->w.ownsRow (A (z w0)) 164 3 m.sv m.V.length (eh m.V)
section
variable {w0 w w':E}{hb:Nat}{s0 s1 md or st:ZB}{making:List ByteArray}{made:List Ent}{L:List SM}
theorem SI.lt (h:SI w0 hb s0 s1 w making made L md or st):A (z w0)<=A (z w):=h.ak.size
theorem SI.aa (h:SI w0 hb s0 s1 w making made L md or st)(b:Below C w w')(f:A (z w)<=C):SI w0 hb s0 s1 w' making made L md or st :=
 ⟨h.ak.trans (b.mono (nL h.lt f)),h.hbB,h.l.ab (b.block _ (lj (ah h.l) f)),own_below h.ag b f,own_below h.ror b f,own_below h.rst b f,h.apart,λm i g=>own_below (h.V m i g) b f⟩
end
def dW:Option Nat->Int
 |some i=>(i:Int)
 |none=>-1
theorem iw (g:Nat->ByteArray)(n:Nat)(t:ByteArray):aG g n t=(atI g n t).isSome:=by unfold aG atI;rw[L9,List.find?_isSome,QN]
theorem uK{g:Nat->ByteArray}{t:ByteArray}(h:aG g n t=ZA):atI g n t=Z:=by rw[iw] at h;exact Option.isNone_iff_eq_none.1 (by simpa using h)
theorem rU{g:Nat->ByteArray}{k:Nat}{t:ByteArray}(b:k<n)(h1:((g k).toList == t.toList)=ZD)(h2:aG g k t=ZA):atI g n t=T k:=by
 unfold atI;rw[List.find?_range_eq_some];refine⟨h1,KV.2 b,λj f=>?_⟩;cases e:((g j).toList == t.toList) with
 |false=>rfl
 |true =>rw[er f e] at h2;cases h2
theorem qQ (b off n0 c0:Nat)(a1:Option Addr)(n1 c1:Nat)(f:Nat->Source)(t:ByteArray)(w:E)(hn:(n0:Int)<=1048576)(p:RowSource w b off n0 f):Calls Pg 73 #[ZG #[Y (T (Q b off Z)) n0 c0,Y a1 n1 c1],U t] w λe w'=>e=ZF (J I (dW (atI (nm0 f) n0 t)))/\Below (A (z w)) w w':=by
 obtain⟨W,h⟩:∃W:E,w.alloc (N #[Y (T (Q b off Z)) n0 c0,Y a1 n1 c1] 29)=W:=⟨_,rfl⟩
 obtain⟨m,-,-⟩:=nb1 h;have g:=ae h;clear h;have q:=ae (p.aa m ly);have k1:B W (Q (A (z w)) 0 Z)=T (Y (T (Q b off Z)) n0 c0):=by rw[<-g.out];simp
 clear p;obtain⟨R,hR⟩:∃R,R=dW (atI (nm0 f) n0 t):=⟨_,rfl⟩
 rw[<-hR];have o:=ae hR;clear hR;go_enter TS,SF;go_wp2;rw[g.out];clear g;go_loop [5] (λi=>∃k:Nat,k<=n0/\i=J I k/\Hid (aG (nm0 f) k t=ZA)) (λi=>n0 - (intOf i).toNat);case atStart=>exact⟨0,by omega,rfl,rfl⟩
 case round =>
  obtain⟨k,hk,rfl,l⟩:=hrel;by_cases j:k<n0
  ·obtain⟨d0,d1⟩:=q.2 k j;cases hb:((f k).e.toList == t.toList) with
   |true =>have n:=ae hb;go_wp2;go_ret;exact⟨by rw[o.out,rU j n.out l.out];rfl,m⟩
   |false =>have n:=ae hb;go_wp2;exact⟨⟨k+1,by omega,by go_num,by show aG (nm0 f) (k+1) t=ZA;rw[fX,l.out];exact n⟩,by simp[intOf];omega⟩
  ·have e:k=n0:=by omega
   subst e;go_wp2;go_ret;exact⟨by rw[o.out,uK l.out];rfl,m⟩
theorem qR (a0:Option Addr)(c0:Nat)(a1:Option Addr)(n1 c1:Nat)(t:ByteArray)(w:E):Calls Pg 73 #[ZG #[Y a0 0 c0,Y a1 n1 c1],U t] w λe w'=>e=ZF (J I (-1))/\Below (A (z w)) w w':=by
 have b:=ae ((BS w).alloc ly (N #[Y a0 0 c0,Y a1 n1 c1] 29));go_enter TS,SF;go_wp2;go_loop [5] (λi=>i=J I 0) (λ_=>0);case atStart=>rfl
 case round =>subst hrel;go_wp2;go_ret;exact⟨rfl,b⟩
theorem gY (a0:Option Addr)(n0 c0:Nat)(a1:Option Addr)(n1 c1:Nat)(f:Nat->Source)(t:ByteArray)(w:E)(hn:(n0:Int)<=1048576)(h:SlSource w a0 n0 f):Calls Pg 73 #[ZG #[Y a0 n0 c0,Y a1 n1 c1],U t] w λe w'=>e=ZF (J I (dW (atI (nm0 f) n0 t)))/\Below (A (z w)) w w':=by
 rcases h with rfl|⟨b,off,rfl,g⟩
 {exact qR a0 c0 a1 n1 c1 t w};{exact qQ b off n0 c0 a1 n1 c1 f t w hn g}
theorem qS (a0:Option Addr)(n0 c0 b off n1 c1:Nat)(f:Nat->Target)(t:ByteArray)(w:E)(hn:(n1:Int)<=1048576)(p:RowTarget w b off n1 f):Calls Pg 74 #[ZG #[Y a0 n0 c0,Y (T (Q b off Z)) n1 c1],U t] w λe w'=>e=ZF (J I (dW (atI (nm1 f) n1 t)))/\Below (A (z w)) w w':=by
 obtain⟨W,h⟩:∃W:E,w.alloc (N #[Y a0 n0 c0,Y (T (Q b off Z)) n1 c1] 29)=W:=⟨_,rfl⟩
 obtain⟨m,-,-⟩:=nb1 h;have g:=ae h;clear h;have q:=ae (p.aa m ly);have k1:B W (Q (A (z w)) 1 Z)=T (Y (T (Q b off Z)) n1 c1):=by rw[<-g.out];simp
 clear p;obtain⟨R,hR⟩:∃R,R=dW (atI (nm1 f) n1 t):=⟨_,rfl⟩
 rw[<-hR];have o:=ae hR;clear hR;go_enter TQ,SE;go_wp2;rw[g.out];clear g;go_loop [5] (λi=>∃k:Nat,k<=n1/\i=J I k/\Hid (aG (nm1 f) k t=ZA)) (λi=>n1 - (intOf i).toNat);case atStart=>exact⟨0,by omega,rfl,rfl⟩
 case round =>
  obtain⟨k,hk,rfl,l⟩:=hrel;by_cases j:k<n1
  ·obtain⟨d0,ka,kc,d1,_⟩:=q.2 k j;cases hb:((f k).e.toList == t.toList) with
   |true =>have n:=ae hb;go_wp2;go_ret;exact⟨by rw[o.out,rU j n.out l.out];rfl,m⟩
   |false =>have n:=ae hb;go_wp2;exact⟨⟨k+1,by omega,by go_num,by show aG (nm1 f) (k+1) t=ZA;rw[fX,l.out];exact n⟩,by simp[intOf];omega⟩
  ·have e:k=n1:=by omega
   subst e;go_wp2;go_ret;exact⟨by rw[o.out,uK l.out];rfl,m⟩
theorem qT (a0:Option Addr)(n0 c0:Nat)(a1:Option Addr)(c1:Nat)(t:ByteArray)(w:E):Calls Pg 74 #[ZG #[Y a0 n0 c0,Y a1 0 c1],U t] w λe w'=>e=ZF (J I (-1))/\Below (A (z w)) w w':=by
 have b:=ae ((BS w).alloc ly (N #[Y a0 n0 c0,Y a1 0 c1] 29));go_enter TQ,SE;go_wp2;go_loop [5] (λi=>i=J I 0) (λ_=>0);case atStart=>rfl
 case round =>subst hrel;go_wp2;go_ret;exact⟨rfl,b⟩
theorem gZ (a0:Option Addr)(n0 c0:Nat)(a1:Option Addr)(n1 c1:Nat)(f:Nat->Target)(t:ByteArray)(w:E)(hn:(n1:Int)<=1048576)(h:SlTarget w a1 n1 f):Calls Pg 74 #[ZG #[Y a0 n0 c0,Y a1 n1 c1],U t] w λe w'=>e=ZF (J I (dW (atI (nm1 f) n1 t)))/\Below (A (z w)) w w':=by
 rcases h with rfl|⟨b,off,rfl,g⟩
 {exact qT a0 n0 c0 a1 c1 t w};{exact qS a0 n0 c0 b off n1 c1 f t w hn g}
theorem nB (m:SM):(smV m).length=6:=rfl
theorem cE{w:E}{cap:Nat}{L:List SM}(h:w.ownsRow b 161 6 (Y (T (Q g 0 Z)) L.length cap) L.length (L.flatMap smV)){i:Nat}{m:SM}(n:L[i]?=T m)(j:Nat)(f:j<6){u:ZB}(l:(smV m)[j]?=T u):B w (Q g (i*6+j) Z)=T u:=by have h1:=h.cells (g:=g) rfl (i*6+j) u (by rw[cK smV 6 nB L i j f m n];exact l);rw[addr_add,IT] at h1;exact h1
theorem uL{L:List SM}{k:Nat}{t:ByteArray}{m:SM}(b:L[k]?=T m)(h1:(m.e.toList == t.toList)=ZD)(h2:∀(j:Nat) (m:SM),j<k->L[j]?=T m->(m.e.toList == t.toList)=ZA):fI L t=T k:=by have f:=(j5.1 b).1;have g:=(j5.1 b).2;unfold fI;rw[NW];refine⟨f,by rw[g];exact h1,λj h=>?_⟩;rw[Bool.not_eq_true];exact h2 j _ h (gq (by omega))
theorem xc{L:List SM}{t:ByteArray}(h2:∀(j:Nat) (m:SM),j<L.length->L[j]?=T m->(m.e.toList == t.toList)=ZA):fI L t=Z:=by unfold fI;rw[NZ];intro m f;obtain⟨j,b⟩:=LZ f;exact h2 j m (j5.1 b).1 b
section
variable {w0:E}{hb:Nat}{s0 s1 md or st:ZB}{making:List ByteArray}{made:List Ent}{L:List SM}
theorem uM (w:E)(t:ByteArray)(u:Nat)(c2:B w (Q hb 2 Z)=T md)(f:w.ownsRow u 161 6 md L.length (L.flatMap smV))(hL:L.length<=100000):Calls Pg 92 #[.pointer (T (Q hb 0 Z)),U t] w λe w'=>e=ZF (J I (dW (fI L t)))/\w'=w:=by
 obtain⟨R,hR⟩:∃R,R=dW (fI L t):=⟨_,rfl⟩
 rw[<-hR];have y:=ae hR;have o:=ae f;obtain⟨a,c,rfl⟩:∃a c,md=Y a L.length c:=by
  obtain⟨_,⟨rfl,e⟩|⟨g,cap,ZS,rfl,_⟩⟩:=f;{exact⟨Z,0,by rw[e]⟩};{exact⟨_,_,rfl⟩}
 obtain⟨n,hn⟩:∃n,n=L.length:=⟨_,rfl⟩
 have q:=ae hn;rw[<-hn] at c2 hL;clear f hR hn;go_enter func92,ntmps92;go_wp2;go_loop [5] (λi=>∃k:Nat,k<=n/\i=J I k/\Hid (∀(j:Nat) (m:SM),j<k->L[j]?=T m->(m.e.toList == t.toList)=ZA)) (λi=>n - (intOf i).toNat);case atStart=>exact⟨0,by omega,rfl,λj m s=>absurd s (KO _)⟩
 case round =>
  obtain⟨k,hk,rfl,p⟩:=hrel;by_cases hlt:k<n
  ·obtain⟨m,l⟩:∃m,L[k]?=T m:=⟨_,gq (by have:=q.out;omega)⟩
   obtain⟨g,cap,ZS,e,-⟩:=o.2.resolve_left (λh=>by have:=q.out;omega);simp only[KK,PJ] at e;obtain⟨rfl,rfl⟩:=e;have d0:B w (Q g (k*6) Z)=T (U m.e):=cE o l 0 (by omega) rfl;have x:=ae l;have hI:(k:Int)<(n:Int):=by omega
   clear l;cases hb2:(m.e.toList == t.toList) with
   |true =>have r:=ae hb2;go_wp2;go_ret;exact⟨by rw[y.out,uL x.out r.out p.out];rfl,rfl⟩
   |false =>
    have r:=ae hb2;go_wp2;refine⟨⟨k+1,by omega,by go_num,λj ZR s b=>?_⟩,by simp[intOf];omega⟩;by_cases e:j=k;{subst e;rw[x.out] at b;cases b;exact r};{exact p j ZR (by omega) b}
  ·have e:k=n:=by omega
   subst e;go_wp2;go_ret;exact⟨by rw[y.out,xc (λj m s l=>p.out j m (by have:=q.out;omega) l)];rfl,rfl⟩
theorem oT (w:E)(t:ByteArray)(h:SI w0 hb s0 s1 w making made L md or st)(hL:L.length<=100000):Calls Pg 92 #[.pointer (T (Q hb 0 Z)),U t] w λe w'=>e=ZF (J I (dW (fI L t)))/\w'=w:=by obtain⟨-,-,-,c2,-⟩:=h.l.D;exact uM w t (A (z w0)) c2 h.ag hL
end
structure oU (w0:E)(S:Spc)(a0:Option Addr)(a1:Option Addr):Prop where
 src:SlSource w0 a0 S.n0 S.f0
 w:SlTarget w0 a1 S.n1 S.f1
 ok:SpcOk S
def ix (w0:E)(hb:Nat)(w':E)(r:jm)(b:ZB):Prop:=∃s0 s1 md or st,ShBox w' hb s0 s1 md or st r.M r.H b ZD/\w'.ownsRow (A (z w0)) 9 1 b r.R.length (bA r.R)
structure LExt (n:Nat)(L L':List SM):Prop where
 nam:∀(i:Nat) (m:SM),L[i]?=T m->∃m':SM,L'[i]?=T m'/\m'.e=m.e
 sn:∀m∈L',m.done=ZD->(∃m0∈L,m0.done=ZD/\m0.sv=m.sv)∨∀k,m.sv.ownBlock=T k->n<=k
theorem LExt.refl (n:Nat)(L:List SM):LExt n L L:=⟨λ_ m h=>⟨m,h,rfl⟩,λm f b=>.inl ⟨m,f,b,rfl⟩⟩
theorem LExt.trans{L r b:List SM}(h:LExt n L r)(k:LExt p r b)(hn:n<=p):LExt n L b:=by
 refine⟨λi m j=>?_,λm j u=>?_⟩;{obtain⟨l,h1,g⟩:=h.nam i m j;obtain⟨t,h2,s⟩:=k.nam i l h1;exact⟨t,h2,s.trans g⟩};{rcases k.sn m j u with ⟨m0,x,q,e⟩|h1;{rcases h.sn m0 x q with ⟨l,h1,o,g⟩|h1;{exact .inl ⟨l,h1,o,g.trans e⟩};{exact .inr λk f=>h1 k (by rw[e];exact f)}};{exact .inr λk f=>nL hn (h1 k f)}}
def iR (c:List ByteArray):jm:=⟨6,⟨#[]⟩,c⟩
def iS (d:ByteArray):jm:=⟨7,d,[]⟩
def iE (r:jm)(b:ZB):ZB:=ZG #[J I r.M,U r.H,b]
def lL (w0:E)(hb:Nat)(s0 s1:ZB)(making:List ByteArray)(L:List SM)(w:E)(e:Ending)(w':E):Out Ent->Prop
 |.inl (made',x)=>∃b f h g,e=ZF (ZG #[J I (dk x).M,U (dk x).H,Y Z 0 0])/\SI w0 hb s0 s1 w' making made' b f h g/\fq b making made'/\LExt (A (z w)) L b/\KS (A (z w0)) XN w w'
 |.inr (.inl c)=>∃a k,e=ZF (iE (iR c) (Y a c.length k))/\ix w0 hb w' (iR c) (Y a c.length k)/\KS (A (z w0)) XN w w'
 |.inr (.inr d)=>e=ZF (iE (iS d) (Y Z 0 0))/\ix w0 hb w' (iS d) (Y Z 0 0)/\KS (A (z w0)) XN w w'
def eQ (S:Spc)(making:List ByteArray)(made:List Ent)(k:Nat):Prop:=made.length+201*dN S making made+k<=50000
def MT (S:Spc)(making:List ByteArray):Prop:=∀t∈making,(atI (nm1 S.f1) S.n1 t).isSome=ZD
def mS (w0:E)(S:Spc)(hb:Nat)(s0 s1:ZB)(n:Nat):Prop:=∀making made L md or st w nm,making.length+n=60->SI w0 hb s0 s1 w making made L md or st->fq L making made->PG S making made->eQ S making made 1->MT S making->aB nm=ZD ->
 Calls Pg 91 #[.pointer (T (Q hb 0 Z)),U nm] w λe w'=>lL w0 hb s0 s1 making L w e w' (aP S n making made nm)
theorem kq{a:Nat}(h:(Pg.info? e).map (λi=>(i.zero,i.size,i.bytes))=T (T ZS,a,b)):∃i,Pg.info? e=T i/\i.zero=T ZS/\i.size=a/\i.bytes=b:=by
 cases hi:Pg.info? e with
 |none=>rw[hi] at h;cases h
 |some i =>rw[hi] at h;simp only[QY,KJ,KH] at h;exact⟨i,rfl,h⟩
theorem oV:(Pg.info? 9).map (λi=>(i.zero,i.size,i.bytes))=T (T (U ⟨#[]⟩),1,16):=by kernel_rfl
theorem yI:(Pg.info? 156).map (λi=>(i.zero,i.size,i.bytes))=T (T (ZG #[ZC ZA,J I 0,U ⟨#[]⟩]),3,32):=by kernel_rfl
theorem Dv:(Pg.info? 164).map (λi=>(i.zero,i.size,i.bytes))=T (T (ZG #[U ⟨#[]⟩,ZC ZA,ZC ZA]),3,24):=by kernel_rfl
theorem Dw:(Pg.info? 161).map (λi=>(i.zero,i.size,i.bytes))=T (T (ZG #[U ⟨#[]⟩,J I 0,U ⟨#[]⟩,Y Z 0 0,Y Z 0 0,ZC ZA]),6,96):=by kernel_rfl
def lM (b:List aC):List ZB:=b.flatMap λr=>[ZC r.has,J I r.M,U r.H]
theorem Dx (b:List aC)(r:aC):lM (b++[r])=lM b++[ZC r.has,J I r.M,U r.H]:=by simp[lM]
theorem Aq (b:List Lk)(l:Lk):eh (b++[l])=eh b++[U l.e,ZC l.ask,ZC l.has]:=by simp[eh]
theorem FD{w:E}{l c:Nat}{b:List aC}(h:w.ownsRow l 156 3 (Y (T (Q g 0 Z)) b.length c) b.length (lM b)):RowReply w g 0 b.length (yL b):=by
 obtain⟨_,o,cs,hc⟩:=af h g rfl;refine⟨o,λi hi=>?_⟩;have n:b[i]?=T (yL b i):=by simp[yL,gq hi]
 have f:∀j u,j<3->([Value.bool (yL b i).has,J I (yL b i).M,U (yL b i).H]:List ZB)[j]?=T u->B w (Q g (i*3+j) Z)=T u:=λj u p m=>by have h1:=h.cells (g:=g) rfl (i*3+j) u (by rw[lM,cK (λr:aC=>[ZC r.has,J I r.M,U r.H]) 3 (λ_=>rfl) b i j p _ n];exact m);rw[addr_add,IT] at h1;exact h1
 refine⟨?_,?_,?_⟩;{rw[IT];exact f 0 _ (by omega) rfl};{rw[IT];exact f 1 _ (by omega) rfl};{rw[IT];exact f 2 _ (by omega) rfl}
theorem nC (w:E)(e:ZH)(size:Nat):(w.alloc (N #[] e)).ownsRow (A (z w)) e size (Y (T (Q (A (z w)) 0 Z)) 0 0) 0 [] :=
 ⟨by simp,.inr ⟨A (z w),0,#[],rfl,nX _,gM _ _,nX _,IH _,by simp,by simp⟩⟩
theorem Ar{S:Spc}(j:SpcOk S)(f:tg<S.n1){b:List aC}(h:∀y∈b,cD y=ZD)(hl:b.length<=200):nu (S.f1 tg).u (S.f1 tg).h (yL b) b.length=bG S tg b:=by
 unfold nu;have g:bS (yL b) b.length=ZD:=by
  have:∀k,bS (yL b) k=ZD:=λk=>by
   induction k with
   |zero=>rfl
   |succ k i=>rw[bS,i,Ev h k];rfl
  exact this _
 rw[eT (by rw[j.u tg f];simp),eT (by omega),eT (by rw[g];simp)];rfl
theorem Dy{S:Spc}(f:SpcOk S)(b:tg<S.n1):∀i,i<(S.f1 tg).h->((S.f1 tg).u i).s.size<=maxLen:=λi hi=>by
 have h1:=jv (bF (f.u tg b)).1 hi;simp only[cG,p6] at h1;obtain⟨i1,i2,i3,i4,i5⟩:=h1;have hmt2:bT ((S.f1 tg).u i).op<=2000:=by unfold bT;split<;>omega
 unfold maxLen;omega
section
variable {w0:E}{S:Spc}{a0 a1:Option Addr}{c0 c1 hb:Nat}{md or st:ZB}{making:List ByteArray}{made:List Ent}{L:List SM}
theorem oW (C:oU w0 S a0 a1)(w:E)(t:ByteArray)(g:Below (A (z w0)) w0 w)(n:hb<A (z w))(m:B w (Q hb 0 Z)=T (Y a0 S.n0 c0))(l:B w (Q hb 1 Z)=T (Y a1 S.n1 c1)):Calls Pg 177 #[.pointer (T (Q hb 0 Z)),U t] w λe w'=>e=ZF (ZC (fo S t))/\Below (A (z w)) w w':=by
 have x:=ae C;have q:=ae g;have hsm:=C.ok.av;obtain⟨R,hR⟩:∃R,R=fo S t:=⟨_,rfl⟩
 rw[<-hR];have o:Hid (R=((atI (nm0 S.f0) S.n0 t).isSome || (atI (nm1 S.f1) S.n1 t).isSome)):=by show _=_;rw[hR];unfold fo;rw[iw,iw]
 clear C g hR;go_enter func177,ntmps177;go_wp2_with fail;refine(gY a0 S.n0 c0 a1 S.n1 c1 S.f0 t w (by omega) (x.src.aa q ly)).mono ?_;rintro e s ⟨rfl,b⟩;have y:=(b.cell (p:=(Q hb 0 Z)) n).trans m;have ZS:=(b.cell (p:=(Q hb 1 Z)) n).trans l;have hl1:hb<A (z s):=lj n b.size;have j:=ae b;clear b m l;cases h0:atI (nm0 S.f0) S.n0 t with
 |some i =>
  have h:=ae h0;clear h0;have u:(0:Int)<=(i:Int):=by omega
  simp only[dW];go_wp2;go_ret;exact⟨by rw[o.out,h.out];rfl,j⟩
 |none =>
  have h:=ae h0;clear h0;simp only[dW];go_wp2_with fail;refine(gZ a0 S.n0 c0 a1 S.n1 c1 S.f1 t s (by omega) (x.w.aa (q.trans (j.mono q.size)) ly)).mono ?_;rintro e w2 ⟨rfl,b⟩;have r:=ae (j.trans (b.mono j.size));clear b y ZS;cases h1:atI (nm1 S.f1) S.n1 t with
  |some i =>
   have f:=ae h1;clear h1;have u:(0:Int)<=(i:Int):=by omega
   simp only[dW];go_wp2;go_ret;exact⟨by rw[o.out,h.out,f.out];simp,r⟩
  |none =>have f:=ae h1;clear h1;simp only[dW];go_wp2;go_ret;exact⟨by rw[o.out,h.out,f.out];rfl,r⟩
end
