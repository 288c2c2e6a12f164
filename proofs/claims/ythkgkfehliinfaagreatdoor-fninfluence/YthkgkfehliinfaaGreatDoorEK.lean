import Derived.Test.YthkgkfehliinfaaGreatDoorEJ
import Derived.Test.YthkgkfehliinfaaGreatDoorFR
set_option linter.all false
set_option maxRecDepth 1000000
set_option maxHeartbeats 8000000
open Go renaming Addr.mk->Q,Value.slice->Y,Value.string->U,Value.int->J,Value.bool->ZF,Value.agg->ZJ,Obj.cells->N,IntKind.i64->I,World->E,Value->ZB,TypeId->ZK,Ending.returned->ZI,World.heap->z,World.ownsRow->ZY,World.alloc->ZV,World.cell?->ZW,World.frozen?->ZX,World.setCell->ZU,Proofs.Tryz.prog->Pg
open Option renaming none->Z,some->T
open Bool renaming false->ZA,true->ZH
open Array renaming size->A
open List renaming length->B
namespace Go.Proofs.YthkgkfehliinfaaGreatDoor.Vp
open Tryz RowKit
variable {nm sx:F_}{b tg n g Z9 m C l p hb:Nat}{w w':E}{t e:ZK}{X:Nat->Prop}{G i:F_->Nat}{jh a:List zt}{x:zt}{f Z8 v' md or:ZB}{S:x_}{mm q_:List F_}{j:Array ZB}
def pH (w:E):(zeroValue 240).run Pg w=.ok (ZJ #[J I 0,.pointer Z]) w:=by kernel_rfl
def kq (jh:List zt)(nm:F_):jh.find? (λe=>e.e.toList == nm.toList)=aS jh nm:=rfl
def sX{e:zt}(h:aS jh nm=T e):dK G mm jh nm.toList=T (ZJ #[J I 0,.pointer (T (Q (G e.e) 0 Z))]):=by unfold dK;rw[kq,h]
def iO (h:aS jh nm=Z):dK G mm jh nm.toList=(atL mm nm).map λ(i:Nat)=>ZJ #[J I (i:Int),.pointer Z]:=by unfold dK;rw[kq,h];rfl
section
variable {w0:E}{S:x_}{mb mp:Nat}{s0 s1 mk md:ZB}{mm q_:List F_}{jh:List zt}{G:F_->Nat}{V:F_->ZB}
def FM (w:E)(nm:F_)(h:MI w0 S mb mp s0 s1 w mm q_ jh G V mk md)(hn:nm.size<=60)(e:zt)(b:aS jh nm=T e):Calls Pg 134 #[.pointer (T (Q mb 0 Z)),U nm] w λr w'=>r=ZI (.pointer (T (Q (G e.e) 0 Z)))/\Below (A (z w)) w w':=by
 have g:=ae (show(dK G mm jh nm.toList).getD (ZJ #[J I 0,.pointer Z])=ZJ #[J I 0,.pointer (T (Q (G e.e) 0 Z))] by rw[sX b];rfl);have j:=ae (show(dK G mm jh nm.toList).isSome=ZH by rw[sX b];rfl);have i:=ae h;obtain⟨hl,-,-,c2,-,-,-⟩:=h.ab.K;have f:nm.size<=maxLen:=by unfold maxLen;omega
 have hz:=pH;have l:=ae ((BS w).alloc ly (N #[J I 0,.pointer (T (Q (G e.e) 0 Z))] 240));clear h b;go_enter func134,ntmps134
 go_wp2_with (first
  |(at_lookup;refine jk _ rfl _ _ 200 rfl 240 TW (hz _) mp _ _ rfl i.map nm rfl f _ g ZH j ?_)
  |fail)
 go_ret;exact⟨rfl,l⟩
def xD (w:E)(nm:F_)(h:MI w0 S mb mp s0 s1 w q_ q_ jh G V mk md)(hn:nm.size<=60)(hm:B q_<=60)(ZT:aS jh nm=Z)(i:Nat)(hi:atL q_ nm=T i):Calls Pg 134 #[.pointer (T (Q mb 0 Z)),U nm] w λr w'=>∃v,r=.panicked [{ v:=.iface 235 (ZJ #[v]),recovered:=ZA }]/\w'.ownsRow (A (z w)) 9 1 v (q_.drop i).length (bO (q_.drop i))/\Below (A (z w)) w w':=by
 have X:=ae (show(dK G q_ jh nm.toList).getD (ZJ #[J I 0,.pointer Z])=ZJ #[J I (i:Int),.pointer Z] by rw[iO ZT,hi];rfl);have HF:=ae (show(dK G q_ jh nm.toList).isSome=ZH by rw[iO ZT,hi];rfl);have HM:=ae h;obtain⟨hl,-,-,c2,c3,-,-⟩:=h.ab.K;have L:i<B q_:=by unfold atL at hi;exact(List.findIdx?_eq_some_iff_findIdx_eq.1 hi).1
 obtain⟨g,j_,cur,rfl,hg1,ZZ,ZP,hg4,ZQ,O⟩:=h.rmk.2.resolve_left λh=>by omega
 have ZL:=ae (h.rmk.cells (g:=g) rfl);have P:nm.size<=maxLen:=by unfold maxLen;omega
 have hz:=pH;obtain⟨q,l⟩:∃W:E,ZV w (N #[J I (i:Int),.pointer Z] 240)=W:=⟨_,rfl⟩
 obtain⟨o,-,-⟩:=nb1 l;have b:=ae l;clear l;have M:g<A (z w):=ah ZZ;obtain⟨n,u⟩:∃n,n=B q_:=⟨_,rfl⟩
 rw[<-u] at L hm c3 ZP;have Z9:=ae u;clear u;have x:=(o.O (p:=(Q mb 3 Z)) hl).k c3;have H:ZW q (Q (A (z w)) 0 Z)=T (J I (i:Int)):=by rw[<-b.i];simp
 clear h ZT ZZ ZQ O hi;go_enter func134,ntmps134
 go_wp2_with (first
  |(at_lookup;refine jk _ rfl _ _ 200 rfl 240 TW (hz _) mp _ _ rfl HM.map nm rfl P _ X ZH HF ?_)
  |fail)
 clear c2 c3;have ZO:A (z w)<A (z q):=by rw[<-b.i];simp
 rw[b.i];clear b;have hI0:(0:Int)<=(i:Int):=by omega
 have hI1:(i:Int)<=(n:Int):=by omega
 have hI2:(n:Int)<=(j_:Int):=by omega
 have hcl:¬ j_=i:=by omega
 have C:mb<A (z q):=by have:=o.size;omega
 have D:A (z w)<A (z q):=ZO;have ZN:Hid (∀W,Below (A (z w)) w W->∀j,j<(q_.drop i).length->ZW W (Q g (i+j) Z)=T (U ((q_.drop i).getD j ByteArray.empty))):=λW hW j ZM=>by
  rw[NO] at ZM
  have h1:=ZL.i (i+j) (U ((q_.drop i).getD j ByteArray.empty)) (by
   rw[bO,L8,gq (by omega)]
   simp[CL,YK,gq (show i+j<B q_ by omega)])
  exact(hW.O (p:=(Q g (i+j) Z)) M).k (by rw[addr_add,IT] at h1;exact h1)
 refine wp_region_held_drew (S:=λV=>ZW V (Q mb 3 Z)=T (Y (T (Q g 0 Z)) n j_)/\ZW V (Q (A (z w)) 0 Z)=T (J I (i:Int))) (by as_aux_lemma=>kernel_rfl) ⟨x,H⟩ λR=>?_;have s:=ae R;clear R;iterate 7
  first|refine aN 0 (v:=?_) rfl rfl (by as_aux_lemma=>kernel_rfl) (λ_ _ _ h=>h) rfl ?_ s ?_|refine aN 4 (v:=?_) rfl rfl (by as_aux_lemma=>kernel_rfl) (λ_ _ _ h=>h) rfl ?_ s ?_
  rotate_left
  ·(rintro wz⟨s0,s1⟩;go_simp)
   (try with_reducible rfl)
  (try simp only[Act.put,yh])
 refine aL (i:=7) rfl (by as_aux_lemma=>kernel_rfl) λK ZS=>?_;go_simp;go_at_call 166;refine(Tryz.slices_Clone_string g i (n - i) (j_ - i) (q_.drop i) _ (by rw[NO,<-Z9.i];exact p7 _) (by omega) (ZN _ o.drew)).P ?_;rintro e ZR⟨v2,rfl,f,Z8,m⟩;have O2:=ae f;obtain⟨g2,cap2,cur2,rfl,q1,q2⟩:=f.2.resolve_left (λh=>Z8 h.1);have t:Hid (Below (A (z q)) q ZR):=⟨m.os,m.tape,m.output,m.size,m.p⟩
 clear f m q1 q2 Z8;refine ZS _ _ ⟨(t.O (p:=(Q mb 3 Z)) C).k x,(t.O (p:=(Q (A (z w)) 0 Z)) D).k H⟩ ?_;clear ZS K s;have s:Hid (ZW ZR (Q mb 3 Z)=T (Y (T (Q g 0 Z)) n j_)/\ZW ZR (Q (A (z w)) 0 Z)=T (J I (i:Int))):=⟨(t.O (p:=(Q mb 3 Z)) C).k x,(t.O (p:=(Q (A (z w)) 0 Z)) D).k H⟩
 (try simp only[Act.put,yh])
 iterate 2
  refine aN 8 (v:=?_) rfl rfl (by as_aux_lemma=>kernel_rfl) (λ_ _ _ h=>h) rfl ?_ s ?_;rotate_left
  ·(rintro wz⟨s0,s1⟩;go_simp)
   (try with_reducible rfl)
  (try simp only[Act.put,yh])
 refine aL (i:=10) rfl (by as_aux_lemma=>kernel_rfl) λK ZS=>?_;go_simp;refine⟨rfl,_,rfl,?_,?_⟩
 ·have h1:=aE (base':=A (z w)) O2 o.size;have e1:(q_.drop i).length=n - i:=by rw[NO,<-Z9.i]
  rw[e1];rw[NV (by omega)] at h1;exact h1
 {exact o.k (t.P o.size)}
end
def mE {b:Type}(f:F_->b)(nm:F_)(v:b):F_->b:=λt=>if t.toList=nm.toList then v else f t
def ft{b:Type}(f:F_->b)(nm:F_)(v:b):mE f nm v nm=v:=eT rfl
def jw{b:Type}(f:F_->b){t:F_}(v:b)(h:t≠nm):mE f nm v t=f t:=eI λe=>h (fy e)
def Am (b:aS jh nm=Z)(h1:atL q_ nm=Z)(s:List UInt8):(if s=nm.toList then T (ZJ #[J I (B q_:Int),.pointer Z]) else dK G q_ jh s)=dK G (q_++[nm]) jh s:=by
 unfold dK;by_cases e:s=nm.toList;{subst e;rw[eT rfl,kq,b,UQ,show List.findIdx? (λx:F_=>x.toList == nm.toList) q_=Z from h1];simp[VE]}
 ·rw[eI e,UQ];have hn:(nm.toList == s)=ZA:=by simpa using λh=>e h.c
  cases jh.find? (λe=>e.e.toList == s) with
  |some x=>rfl
  |none=>simp[VE,hn]
def FO{b:F_->Nat}{f:Nat}(j:aS jh nm=Z)(g:x.e=nm)(i:∀y∈jh,b y.e=G y.e)(m:b nm=f)(l:mm=q_\/mm=q_++[nm])(s:List UInt8):(if s=nm.toList then T (ZJ #[J I 0,.pointer (T (Q f 0 Z))]) else dK G mm jh s)=dK b q_ (jh++[x]) s:=by
 unfold dK;rw[List.find?_append];by_cases e:s=nm.toList;{subst e;rw[eT rfl,kq,j];simp[g,m]}
 ·rw[eI e];have hn:(nm.toList == s)=ZA:=by simpa using λh=>e h.c
  cases hf:jh.find? (λe=>e.e.toList == s) with
  |some y =>simp only[Option.some_or];rw[i y (UY hf)]
  |none =>
   have h2:List.find? (λe:zt=>e.e.toList == s) [x]=Z:=by simp[g,hn]
   rw[h2];rcases l with rfl|rfl;{rfl};{simp[UQ,VE,hn]}
section
variable {w0 w:E}{S:x_}{mb mp:Nat}{s0 s1 mk md:ZB}{mm q_:List F_}{jh:List zt}{G:F_->Nat}{V:F_->ZB}
def EntAt.congr{f:F_->Nat}{v:ZB}(h:EntAt w0 S G w b v x)(i:∀l∈x.D,l.ask=ZH->f l.e=G l.e):EntAt w0 S f w b v x:=by obtain⟨h1,h2,g⟩:=h;refine⟨h1,h2,?_⟩;rw[oX i];exact g
def MIg.added{y_:Nat}{v:ZB}(h:MIg w0 S mb mp s0 s1 w y_ (λs=>if s=nm.toList then T (ZJ #[J I 0,.pointer (T (Q m 0 Z))]) else dK G mm jh s) (B q_) (bO q_) (B jh+1) (jW G jh++[.pointer (T (Q m 0 Z))]) jh G V mk md)(u:PG S q_ jh)(r:aS jh nm=Z)(p:x.e=nm)
  (ZZ:mm=q_\/mm=q_++[nm]) (C:y_<=2*(B jh+1)+B q_) (D:EntAt w0 S G w m v x) (Z9:∀y∈jh,G y.e≠m) (n:∀l∈x.D,l.ask=ZH->∃y∈jh,y.e=l.e) :
  MI w0 S mb mp s0 s1 w q_ q_ (jh++[x]) (mE G nm m) (mE V nm v) mk md:=by
 have q:=dI r;have g:∀y∈jh,mE G nm m y.e=G y.e:=λy f=>jw _ _ (q y f);have ZT:∀y∈jh,mE V nm v y.e=V y.e:=λy f=>jw _ _ (q y f);have o:(jh++[x]).length=B jh+1:=by simp
 refine⟨h.ak,h.mbB,h.mpB,h.ab,h.rmk,?_,?_,λy f=>?_,?_⟩;{have e:jW (mE G nm m) (jh++[x])=jW G jh++[.pointer (T (Q m 0 Z))]:=(by simp only[jW,NE,T7,VN,p,ft];rw[XS λy f=>by rw[g y f]]);rw[e,o];exact h.X};{rw[o];exact(h.map.P C).congr λs=>FO r p g (ft _ _ _) ZZ s};{rcases p8.1 f with f|f;{rw[g y f,ZT y f];refine(h.W y f).congr λl o n=>?_;obtain⟨i,hi⟩:=PE f;obtain⟨j,Z8,_,hz,hn⟩:=u.ord i y hi l o n;rw[<-hn];exact g Z8 (I5 hz)};{rw[j4.1 f,p,ft,ft];refine D.congr λl o t=>?_;obtain⟨Z8,hz,hn⟩:=n l o t;rw[<-hn];exact g Z8 hz}};{rw[PD];refine⟨?_,VK _ _,λa n b hb=>?_⟩;{exact h.dist.imp_of_mem λ{a b} n hb h=>by rw[g a n,g b hb];exact h};{rw[j4.1 hb,p,ft,g a n];exact Z9 a n}}
structure Ext (n:Nat)(jh made':List zt)(G G':F_->Nat)(V V':F_->ZB):Prop where
 pre:∃more,made'=jh++more
 same:∀x∈jh,G' x.e=G x.e/\V' x.e=V x.e
 new:∀x∈made',x∈jh\/(n<=G' x.e/\∀k,(V' x.e).ownBlock=T k->n<=k)
def Ext.refl (n:Nat)(jh:List zt)(G:F_->Nat)(V:F_->ZB):Ext n jh jh G G V V:=⟨⟨[],by simp⟩,λ_ _=>⟨rfl,rfl⟩,λ_ h=>.inl h⟩
def Ext.mem{jh b:List zt}{G:F_->Nat}{V g:F_->ZB}(h:Ext n jh b G i V g):∀x∈jh,x∈b:=by obtain⟨more,e⟩:=h.pre;intro x f;rw[e];exact NY _ f
def Ext.k{b c:List zt}{u l o:F_->Nat}{t s r:F_->ZB}(h:Ext n a b u l t s)(k:Ext m b c l o s r)(g:n<=m):Ext n a c u o t r:=by
 obtain⟨p,y⟩:=h.pre;obtain⟨q,D⟩:=k.pre;refine⟨⟨p++q,by rw[D,y,NQ]⟩,λx f=>?_,λx f=>?_⟩;{obtain⟨ZZ,Z8⟩:=h.same x f;obtain⟨j,i⟩:=k.same x (h.mem x f);exact⟨j.k ZZ,i.k Z8⟩}
 ·rcases k.new x f with hb|⟨h1,h2⟩
  ·obtain⟨j,i⟩:=k.same x hb;rcases h.new x hb with C|⟨h1,h2⟩
   {exact .inl C};{exact .inr ⟨by rw[j];exact h1,by rw[i];exact h2⟩}
  {exact .inr ⟨nX g h1,λk Z9=>nX g (h2 k Z9)⟩}
def Ext.P{b:List zt}{g:F_->Nat}{j l:F_->ZB}(h:Ext n a b i g j l)(f:m<=n):Ext m a b i g j l:=
 ⟨h.pre,h.same,λx o=>(h.new x o).imp id λ⟨h1,h2⟩=>⟨nX f h1,λk p=>nX f (h2 k p)⟩⟩
def Ie{jh:List zt}{v:ZB}(f:aS jh nm=Z)(h:x.e=nm)(h1:n<=g)(h2:∀k,v.ownBlock=T k->n<=k):Ext n jh (jh++[x]) G (mE G nm g) V (mE V nm v):=by
 refine⟨⟨_,rfl⟩,λy b=>⟨jw _ _ (dI f y b),jw _ _ (dI f y b)⟩,λy b=>?_⟩;rcases p8.1 b with b|b;{exact .inl b};{rw[j4.1 b,h,ft,ft];exact .inr ⟨h1,h2⟩}
def EU.step{s:Nat}{n:List Lk}{v:ZB}{g:List zt}{p:F_->Nat}{q:F_->ZB}(h:EU w0 S w s nm tg G n v jh V)(t:KX (A (z w0)) XN w w')(i:Ext (A (z w)) jh g G p V q):EU w0 S w' s nm tg p n v g q:=by
 obtain⟨⟨a,j_,hb,j⟩,u,o,Z8,r,has⟩:=h;have y:∀l∈n,l.ask=ZH->p l.e=G l.e:=λl m j=>by obtain⟨x,b,e⟩:=has l m j;rw[<-e];exact(i.same x b).1
 have hebl:=ah hb;refine⟨⟨a,j_,(t.ad _ _ _ _ hb (by decide) (by decide) (by decide) λh=>h).k hb,j⟩,u,?_,λx b=>?_,λx b k f=>?_,λl m j=>?_⟩;{rw[oX y];refine b9 o λk f=>?_;obtain⟨_,_,cs,ZZ⟩:=af o k f;exact t.ad k _ _ _ ZZ (by decide) (by decide) (by decide) λh=>h}
 ·rcases i.new x b with b|⟨h1,_⟩
  {rw[(i.same x b).1];exact Z8 x b};{omega}
 ·rcases i.new x b with b|⟨_,h1⟩
  {rw[(i.same x b).2];exact r x b k f};{intro e;have:=h1 k e;have:=(af o k f).2.1;omega}
 {obtain⟨x,b,e⟩:=has l m j;exact⟨x,i.mem x b,e⟩}
end
structure Ctx (w0:E)(S:x_)(a0:O_)(c0:Nat)(a1:O_)(c1:Nat):Prop where
 src:Qx w0 a0 S.n0 S.f0
 w:Qq w0 a1 S.n1 S.f1
 ok:SpcOk S
 tab:Tab2 w0
 pow:Pow w0
 sz:∀i,i<S.n0->(S.f0 i).H.size<=maxLen
def vT (w0:E)(S:x_)(mb mp:Nat)(s0 s1:ZB)(q_:List F_)(jh:List zt)(G:F_->Nat)(V:F_->ZB)(w:E)(e:Ending)(w':E):Out zt->Prop
 |.inl (made',x)=>∃b g h f,e=ZI (.pointer (T (Q (b x.e) 0 Z)))/\MI w0 S mb mp s0 s1 w' q_ q_ made' b g h f/\Ext (A (z w)) jh made' G b V g/\KX (A (z w0)) XN w w'
 |.inr (.inl c)=>∃v,e=.panicked [{ v:=.iface 235 (ZJ #[v]),recovered:=ZA }]/\ZY w' (A (z w0)) 9 1 v (B c) (bO c)/\Below (A (z w0)) w w'
 |.inr (.inr d)=>e=.panicked [{ v:=.iface 237 (ZJ #[U d]),recovered:=ZA }]/\Below (A (z w0)) w w'
def eX (S:x_)(q_:List F_)(jh:List zt)(k:Nat):Prop:=B jh+201*dU S q_ jh+k<=50000
def jX (w0:E)(S:x_)(mb mp:Nat)(s0 s1:ZB)(n:Nat):Prop:=∀q_ jh G V mk md w nm,B q_+n=60->MI w0 S mb mp s0 s1 w q_ q_ jh G V mk md->PG S q_ jh->eX S q_ jh 1->aA nm=ZH ->
 Calls Pg 134 #[.pointer (T (Q mb 0 Z)),U nm] w λe w'=>vT w0 S mb mp s0 s1 q_ jh G V w e w' (aT S n q_ jh nm)
def qP{a:Nat}(h:(Pg.info? e).map (λi=>(i.zero,i.size,i.bytes))=T (T Z8,a,b)):∃i,Pg.info? e=T i/\i.zero=T Z8/\i.size=a/\i.bytes=b:=by
 cases hi:Pg.info? e with
 |none=>rw[hi] at h;cases h
 |some i =>rw[hi] at h;simp only[U7,ND,LK] at h;exact⟨i,rfl,h⟩
def yx:(Pg.info? 206).map (λi=>(i.zero,i.size,i.bytes))=T (T (ZJ #[U ⟨#[]⟩,ZF ZA,ZF ZA,J I 0,.pointer Z]),5,40):=by kernel_rfl
def FP:(Pg.info? 9).map (λi=>(i.zero,i.size,i.bytes))=T (T (U ⟨#[]⟩),1,16):=by kernel_rfl
def FQ:(Pg.info? 153).map (λi=>(i.zero,i.size,i.bytes))=T (T (.pointer Z),1,8):=by kernel_rfl
abbrev vU (t:ZK):Prop:=t≠9/\t≠153/\t≠202/\t≠156/\t≠206
section
variable {w0 w:E}{S:x_}{mb mp:Nat}{s0 s1 mk md:ZB}{y_ nk np:Nat}{F:List UInt8->Option ZB}{ks ps:List ZB}{jh:List zt}{G:F_->Nat}{V:F_->ZB}
def MIg.ag{l:Array ZB}{fz:Nat × Nat}(h:MIg w0 S mb mp s0 s1 w y_ F nk ks np ps jh G V mk md)(hb:w.heap[b]?=T (N l t fz))(Z8:vU t)(r:A (z w0)<=b)(j:Nat)(u:ZB):MIg w0 S mb mp s0 s1 (ZU w (Q b j Z) u) y_ F nk ks np ps jh G V mk md:=by
 have C:KX (A (z w0)) (λi=>i=b) w (ZU w (Q b j Z) u):=KX.setCell (X:=λi=>i=b) w r (Or.inl rfl) u;obtain⟨ZZ,Z9,D,s,y⟩:=Z8;refine h.kx C (λi o hi q=>qh _ _ _ _ λe=>q e) (λe=>?_) (λe=>?_) (λk f e=>?_) (λk f e=>?_) λx n=>⟨λe=>?_,λk f e=>?_⟩
 {subst e;exact D (ar hb h.ab)};{obtain⟨es,c,p⟩:=h.map.isMap;rw[e,hb] at p;cases p};{subst e;obtain⟨_,_,l,g⟩:=af h.rmk _ f;exact ZZ (ar hb g)};{subst e;obtain⟨_,_,l,g⟩:=af h.X _ f;exact Z9 (ar hb g)};{obtain⟨act,m,_⟩:=(h.W x n).ad;rw[e] at m;exact s (ar hb m)};{subst e;obtain⟨_,_,l,g⟩:=af (h.W x n).row _ f;exact y (ar hb g)}
def EU.ag{g:List Lk}{v:ZB}{n:Array ZB}{fz:Nat × Nat}(h:EU w0 S w l nm tg G g v jh V)(hb:w.heap[b]?=T (N n t fz))(p:vU t)(j:Nat)(u:ZB):EU w0 S (ZU w (Q b j Z) u) l nm tg G g v jh V:=by
 obtain⟨⟨a,j_,f,y⟩,o,m,s,i,has⟩:=h;obtain⟨t1,t2,t3,q,r⟩:=p;refine⟨⟨a,j_,(qh _ _ _ _ λe=>?_).k f,y⟩,o,aB m (λe=>?_) _ _,s,i,has⟩;{simp at e;subst e;exact q (ar hb f)};{obtain⟨_,_,n,x⟩:=af m _ e;exact r (ar hb x)}
def EU.aa{i:Nat}{f:List Lk}{v:ZB}(h:EU w0 S w i nm tg G f v jh V)(hb:Below C w w')(l:A (z w)<=C):EU w0 S w' i nm tg G f v jh V:=by obtain⟨⟨a,j_,b,o⟩,j,m,n,g,has⟩:=h;exact⟨⟨a,j_,(hb.p _ (lj (ah b) l)).k b,o⟩,j,J_ m hb l,n,g,has⟩
def EntBlk.K{text:F_}{kind code z_:Int}{act:ZB}(h:EntBlk w b nm kind code text act f z_):b<A (z w)/\ZW w (Q b 0 Z)=T (U nm)/\ZW w (Q b 1 Z)=T (J I kind)/\ZW w (Q b 2 Z)=T (J I code)/\ZW w (Q b 3 Z)=T (U text)/\ZW w (Q b 4 Z)=T act/\ZW w (Q b 5 Z)=T (Y Z 0 0)/\ZW w (Q b 6 Z)=T f/\ZW w (Q b 7 Z)=T (J I z_)/\∀j,ZX w (Q b j Z)=ZA:=by unfold EntBlk at h;refine⟨ah h,?_,?_,?_,?_,?_,?_,?_,?_,λj=>?_⟩;all_goals simp[World.cell?,World.frozen?,h]
def EU.tied{m:E}{j:List Lk}{v:ZB}{l:Lk}(h:EU w0 S w b nm tg G j v jh V)(C:l.ask=ZH->∃x∈jh,x.e=l.e)(D:w.grownBy m v.ownBlock)(s:ZY m (A (z w0)) 206 5 v' (B j+1) (fE G j++mD G l))(Z9:v'.ownBlock=v.ownBlock\/v'.ownBlock=T (A (z w)))(H:∀x∈jh,∀k,(V x.e).ownBlock=T k->k<A (z w)):EU w0 S (ZU m (Q b 6 Z) v') b nm tg G (j++[l]) v' jh V:=by
 obtain⟨⟨a,j_,f,ZS⟩,q,u,y,p,has⟩:=h;have r:T b≠v.ownBlock:=λe=>by obtain⟨_,_,ZZ,n⟩:=af u b e.c;exact absurd (ar f n) (by decide)
 have g:m.heap[b]?=_:=(D.p b (ah f) r).k f;refine⟨⟨a,j_,aw g v',ZS⟩,q,?_,y,λx t k o=>?_,λZ8 hz i=>?_⟩;{rw[CB,cM,AI];refine aB s (λe=>?_) _ _;obtain⟨_,_,ZZ,n⟩:=af s b e;exact absurd (ar g n) (by decide)}
 ·rcases Z9 with e|e;{exact p x t k (by rw[<-e];exact o)}
  ·rw[e] at o;cases o
   intro ZT;have:=H x t _ ZT;omega
 {rcases p8.1 hz with hz|hz;{exact has Z8 hz i};{rw[j4.1 hz] at i ⊢;exact C i}}
def MIg.tied{p:E}{ZT:List Lk}{v:ZB}(h:MIg w0 S mb mp s0 s1 w y_ F nk ks np ps jh G V mk md)(ZR:EU w0 S w n nm tg G ZT v jh V)(ZZ:w.grownBy p v.ownBlock):MIg w0 S mb mp s0 s1 (ZU p (Q n 6 Z) v') y_ F nk ks np ps jh G V mk md/\KX (A (z w0)) (λi=>i=n\/v.ownBlock=T i) w (ZU p (Q n 6 Z) v'):=by
 obtain⟨⟨a,j_,b,ha⟩,Z8,m,ZS,y,has⟩:=ZR;have H:KX (A (z w0)) (λi=>i=n\/v.ownBlock=T i) w p:=KX.of_grown ZZ h.lt λj Z9=>⟨(af m j Z9).1,.inl (.inr Z9)⟩
 have K:KX (A (z w0)) (λi=>i=n\/v.ownBlock=T i) p (ZU p (Q n 6 Z) v'):=KX.setCell p Z8 (.inl (.inl rfl)) v';have D:=H.k K λ_ _ h=>h;refine⟨h.kx D (λi o hi s=>?_) (λe=>?_) (λe=>?_) (λk l e=>?_) (λk l e=>?_) (λx r=>⟨λe=>?_,λk l e=>?_⟩),D⟩;{exact(qh _ _ _ _ λe=>s (.inl e)).k (ZZ.p i (ah hi) λe=>s (.inr e.c))};{rcases e with e|e;{rw[<-e] at b;exact absurd (ar b h.ab) (by decide)};{obtain⟨_,_,u,g⟩:=af m _ e;exact absurd (ar g h.ab) (by decide)}};{obtain⟨es,c,C⟩:=h.map.isMap;rcases e with e|e;{unfold EntBlk at b;rw[<-e,C] at b;cases b};{obtain⟨_,_,u,g⟩:=af m _ e;rw[C] at g;cases g}};{obtain⟨_,_,u,g⟩:=af h.rmk _ l;rcases e with e|e;{rw[<-e] at b;exact absurd (ar b g) (by decide)};{obtain⟨_,_,q,f⟩:=af m _ e;exact absurd (ar g f) (by decide)}};{obtain⟨_,_,u,g⟩:=af h.X _ l;rcases e with e|e;{rw[<-e] at b;exact absurd (ar b g) (by decide)};{obtain⟨_,_,q,f⟩:=af m _ e;exact absurd (ar g f) (by decide)}};{rcases e with e|e;{exact ZS x r e};{obtain⟨act,t,_⟩:=(h.W x r).ad;obtain⟨_,_,q,f⟩:=af m _ e;exact absurd (ar t f) (by decide)}};{rcases e with e|e;{obtain⟨_,_,q,f⟩:=af (h.W x r).row _ l;rw[<-e] at b;exact absurd (ar b f) (by decide)};{exact y x r k e l}}
def MIg.vlt (h:MIg w0 S mb mp s0 s1 w y_ F nk ks np ps jh G V mk md):∀x∈jh,∀k,(V x.e).ownBlock=T k->k<A (z w):=λx b k f=>(af (h.W x b).row k f).2.1
end
open Ca
def bM{size:Nat}{v:ZB}{f:List ZB}(h:ZY w b e size v n f):∃a j_,v=Y a n j_:=by
 obtain⟨_,⟨rfl,rfl⟩|⟨g,j_,cur,rfl,_⟩⟩:=h;{exact⟨Z,0,rfl⟩};{exact⟨_,_,rfl⟩}
def yy (w:E)(b g i l m:ZB)(t:ZK):∀j u,[b,g,i,l,m][j]?=T u->(ZV w (N #[b,g,i,l,m] t)).cell? (((Q (A (z w)) 0 Z):Addr).add j)=T u:=by
 intro j u h;rw[addr_add];have hj:j<5:=by
  rcases OT j 5 with f|f;{exact f};{rw[NU (by simp;omega)] at h;cases h}
 rcases(show j=0\/j=1\/j=2\/j=3\/j=4 by omega) with rfl|rfl|rfl|rfl|rfl;all_goals
  simp at h;subst h;simp
section
variable {w0:E}{S:x_}{a0 a1:O_}{c0 c1 mb mp:Nat}{mk md:ZB}{q_:List F_}{jh:List zt}{G:F_->Nat}{V:F_->ZB}
def RepSt (w0:E)(S:x_)(mb mp:Nat)(s0 s1:ZB)(w w':E)(q_:List F_)(jh:List zt)(G:F_->Nat)(V:F_->ZB)(mk md:ZB)(f tg:Nat)(nm:F_)(g:List Lk)(v b:ZB):Prop:=
 MI w0 S mb mp s0 s1 w' q_ q_ jh G V mk md/\EU w0 S w' f nm tg G g b jh V/\KX (A (z w0)) (λi=>i=f\/v.ownBlock=T i) w w'/\∀k,b.ownBlock=T k->v.ownBlock=T k\/(A (z w))<=k
def RepSt.set{W:E}{s0 s1:ZB}{rb:Nat}{g:List Lk}{v:ZB}{o:Array ZB}(h:RepSt w0 S mb mp s0 s1 w W q_ jh G V mk md m tg nm g v f)(hb:W.heap[rb]?=T (N o t (0,0)))(n:vU t)(l:A (z w0)<=A (z w))(b:A (z w)<=rb)(j:Nat)(u:ZB):RepSt w0 S mb mp s0 s1 w (ZU W (Q rb j Z) u) q_ jh G V mk md m tg nm g v f/\(ZU W (Q rb j Z) u).heap[rb]?=T (N (o.setIfInBounds j u) t (0,0)):=
 ⟨⟨h.1.ag hb n (nX l b) j u,h.2.1.ag hb n j u,h.2.2.1.k (KX.setCell (X:=λi=>i=rb) W (nX l b) (Or.inl rfl) u) (λi hi e=>by have e2:i=rb:=e;omega),h.2.2.2⟩,aw hb u⟩
def dL{g i:ZB}(h:w.heap[b]?=T (N #[f,g,i] t (0,0))):b<A (z w)/\ZW w (Q b 0 Z)=T f/\ZW w (Q b 1 Z)=T g/\ZW w (Q b 2 Z)=T i/\∀j,ZX w (Q b j Z)=ZA:=by refine⟨ah h,?_,?_,?_,λj=>?_⟩;all_goals simp[World.cell?,World.frozen?,h]
def JD (w W:E)(c0 c1 c2 c3 c4 c5:ZB):Prop:=Hid (Below (A (z w)) w W)/\ZW W (Q (A (z w)) 3 Z)=T c3/\ZW W (Q (A (z w)) 4 Z)=T c4/\(A (z W))=A (z w)+2/\Hid (W.heap[A (z w)+1]?=T (N #[ZF ZA,J I 0,U ⟨#[]⟩] 141 (0,0)))/\Hid (W.heap[A (z w)]?=T (N #[c0,c1,c2,c3,c4,c5] 138 (0,0)))
def yz (w:E)(c0 c1 c2 c3 c4 c5:ZB):JD w (ZV (ZV w (N #[c0,c1,c2,c3,c4,c5] 138)) (N #[ZF ZA,J I 0,U ⟨#[]⟩] 141)) c0 c1 c2 c3 c4 c5:=by refine⟨((BS w).alloc ly _).alloc (by simp) _,by simp[go_sem],by simp[go_sem],by simp,?_,(((a8 (A (z w)+1) _).alloc (by simp) _).p (A (z w)) (by omega)).k (gM w _)⟩;have h2:=gM (ZV w (N #[c0,c1,c2,c3,c4,c5] 138)) (N #[ZF ZA,J I 0,U ⟨#[]⟩] 141);rw[show(A (z (ZV w (N #[c0,c1,c2,c3,c4,c5] 138))))=A (z w)+1 by simp] at h2;exact h2
def yA (w0:E)(S:x_)(mb mp:Nat)(s0 s1:ZB)(q_:List F_)(jh:List zt)(G:F_->Nat)(V:F_->ZB)(w:E)(l tg:Nat)(nm name:F_)(j:List Lk)(v:ZB)(e:Ending)(w':E):Out zt->Prop
 |.inl (made',x)=>e=ZI (ZJ #[ZF (decide (¬ x.m=2)),J I x.M,U x.H])/\∃g f h b i,RepSt w0 S mb mp s0 s1 w w' q_ made' g f h b l tg nm (j++[⟨name,ZH,ZA⟩]) v i/\Ext (A (z w)) jh made' G g V f
 |.inr (.inl c)=>∃v,e=.panicked [{ v:=.iface 235 (ZJ #[v]),recovered:=ZA }]/\ZY w' (A (z w0)) 9 1 v (B c) (bO c)/\Below (A (z w0)) w w'
 |.inr (.inr d)=>e=.panicked [{ v:=.iface 237 (ZJ #[U d]),recovered:=ZA }]/\Below (A (z w0)) w w'
def sY:(∀(C:Ctx w0 S a0 c0 a1 c1) (w:E) (f tg:Nat) (nm:F_) (b:List Lk) (v:ZB) (ZO:Turn) (h:MI w0 S mb mp (Y a0 S.n0 c0) (Y a1 S.n1 c1) w q_ q_ jh G V mk md) (Z8:EU w0 S w f nm tg G b v jh V) (ro:B b<=200) (y:ZO.ask=ZA),Calls Pg 210 #[.pointer (T (Q mb 0 Z)),.pointer (T (Q f 0 Z)),ZO.v] w λe w'=>e=ZI (ZJ #[ZF (fL S ZO.e),J I 0,U ⟨#[]⟩])/\∃v',RepSt w0 S mb mp (Y a0 S.n0 c0) (Y a1 S.n1 c1) w w' q_ jh G V mk md f tg nm (b++[⟨ZO.e,ZA,fL S ZO.e⟩]) v v')/\(∀(C:Ctx w0 S a0 c0 a1 c1) (n:Nat) (HL:jX w0 S mb mp (Y a0 S.n0 c0) (Y a1 S.n1 c1) n) (w:E) (f tg:Nat) (nm:F_) (b:List Lk) (v:ZB) (ZO:Turn) (th:B q_+n=60) (h:MI w0 S mb mp (Y a0 S.n0 c0) (Y a1 S.n1 c1) w q_ q_ jh G V mk md) (hp:PG S q_ jh) (ld:eX S q_ jh 1) (Z8:EU w0 S w f nm tg G b v jh V) (ro:B b<=200) (y:ZO.ask=ZH) (hn:aA ZO.e=ZH),Calls Pg 210 #[.pointer (T (Q mb 0 Z)),.pointer (T (Q f 0 Z)),ZO.v] w λe w'=>yA w0 S mb mp (Y a0 S.n0 c0) (Y a1 S.n1 c1) q_ jh G V w f tg nm ZO.e b v e w' (aT S n q_ jh ZO.e)):=by
 refine⟨λC w f tg nm b v ZO h Z8 ro y=>?_,λC n HL w f tg nm b v ZO th h hp ld Z8 ro y hn=>?_⟩;focus
  obtain⟨i1,hi,ur,n8,mv⟩:=qP yx;obtain⟨t,r,rfl⟩:=bM Z8.row;obtain⟨over,code,text,ask,name,k_⟩:=ZO;simp only at y;subst y;obtain⟨ZZ,Bk,ZT,DQ,kr,-⟩:=yz w (ZF over) (J I code) (U text) (ZF ZA) (U name) (J I k_);have ZQ:=ae (h.aa ZZ ly);have U0:=ae (Z8.aa ZZ ly);have CC:=ae C;have s:A (z w0)<=A (z w):=h.lt;have JL:f<A (z w):=by obtain⟨⟨aa,ca,j,ha⟩,-⟩:=Z8;exact ah j
  have Fd:Hid (T (A (z w)+1)≠(Value.slice t (B b) r).ownBlock):=λe=>by have:=(af Z8.row _ e.c).2.1;omega
  have TN:Hid (T (A (z w))≠(Value.slice t (B b) r).ownBlock):=λe=>by have:=(af Z8.row _ e.c).2.1;omega
  clear h Z8 C;show Calls Pg 210 #[.pointer (T (Q mb 0 Z)),.pointer (T (Q f 0 Z)),ZJ #[ZF over,J I code,U text,ZF ZA,U name,J I k_]] w _;obtain⟨hb,DE⟩:∃hb,hb=fL S name:=⟨_,rfl⟩
  have JN:=ae DE;rw[<-DE];clear DE;go_enter func210,ntmps210;go_wp2_with fail;clear Bk;generalize World.alloc (World.alloc w _) _=W0 at ZZ ZT DQ kr ZQ U0 ⊢;obtain⟨la,m0,m1,-⟩:=ZQ.ab.K;refine wp_region_held_drew (S:=λV=>ZW V (Q mb 0 Z)=T (Y a0 S.n0 c0)/\ZW V (Q mb 1 Z)=T (Y a1 S.n1 c1)/\ZW V (Q (A (z w)) 4 Z)=T (U name)) (by kernel_rfl) ⟨m0,m1,ZT⟩ λhS=>?_;have H:=ae hS;clear hS
  iterate 6
   first|refine aN 0 (v:=?_) rfl rfl (by kernel_rfl) (λ_ _ _ h=>h) rfl ?_ H ?_|refine aN 4 (v:=?_) rfl rfl (by kernel_rfl) (λ_ _ _ h=>h) rfl ?_ H ?_
   rotate_left
   ·(rintro wz⟨s0,s1,s2⟩;go_simp)
    (try with_reducible rfl)
   (try simp only[Act.put,yh])
  refine aL (i:=6) rfl (by kernel_rfl) λK m=>?_;go_simp;go_at_call 117;have At:Hid (Below (A (z w0)) w0 W0.drew):=ZQ.ak.drew;refine(rC a0 S.n0 c0 S.f0 a1 S.n1 c1 S.f1 name _ (by have:=CC.ok.bb;omega) (by have:=CC.ok.bb;omega) (CC.src.aa At ly) (CC.w.aa At ly) CC.ok.asc0 CC.ok.asc1).P ?_;rintro e g⟨he,hB⟩;rw[show(aF (nm0 S.f0) S.n0 name || aF (nm1 S.f1) S.n1 name)=hb from JN.c] at he;subst he;have ZS:Hid (Below (A (z W0)) W0 g):=⟨hB.os,hB.tape,hB.output,hB.size,hB.p⟩
  clear hB At;have GS:A (z w)<A (z W0):=by omega
  refine m _ _ ⟨(ZS.O (p:=(Q mb 0 Z)) la).k m0,(ZS.O (p:=(Q mb 1 Z)) la).k m1,(ZS.O (p:=(Q (A (z w)) 4 Z)) GS).k ZT⟩ ?_;clear m K H;have H:Hid (ZW g (Q mb 0 Z)=T (Y a0 S.n0 c0)/\ZW g (Q mb 1 Z)=T (Y a1 S.n1 c1)/\ZW g (Q (A (z w)) 4 Z)=T (U name)):=⟨(ZS.O (p:=(Q mb 0 Z)) la).k m0,(ZS.O (p:=(Q mb 1 Z)) la).k m1,(ZS.O (p:=(Q (A (z w)) 4 Z)) GS).k ZT⟩
  (try simp only[Act.put,yh])
  refine aN 7 (v:=?_) rfl rfl (by kernel_rfl) (λ_ _ _ h=>h) rfl ?_ H ?_;rotate_left
  ·(rintro wz⟨s0,s1,s2⟩;go_simp)
   (try with_reducible rfl)
  (try simp only[Act.put,yh])
  refine wpAnyH_done (by kernel_rfl) ?_ _;have A1:=ae (ZZ.k (ZS.P ZZ.size));have KW:=ae (KX.q (X:=XN) A1 ly s);have M1:=ae (ZQ.aa ZS ly);have U1:=ae (U0.aa ZS ly);have n4:=H.2.2;have Fm:Hid (g.heap[A (z w)+1]?=T (N #[ZF ZA,J I 0,U ⟨#[]⟩] 141 (0,0))):=(ZS.p _ (by omega)).k kr;have JS:A (z w)+2<=A (z g):=by have:=ZS.size;omega
  clear H m0 m1 ZT ZQ U0 kr ZZ;go_wp2_with fail;obtain⟨o,P⟩:∃x,x=jh:=⟨_,rfl⟩
  subst P;obtain⟨M,P⟩:∃x,x=G:=⟨_,rfl⟩
  subst P;obtain⟨V',P⟩:∃x,x=V:=⟨_,rfl⟩
  subst P;obtain⟨ex,P⟩:∃x,x=mk:=⟨_,rfl⟩
  subst P;obtain⟨aq,P⟩:∃x,x=md:=⟨_,rfl⟩
  subst P;have MH:=True.intro;obtain⟨lk,qr⟩:∃l:Lk,l=⟨name,ZA,hb⟩:=⟨_,rfl⟩
 rotate_left;focus
  obtain⟨i1,hi,ur,n8,mv⟩:=qP yx;obtain⟨t,r,rfl⟩:=bM Z8.row;obtain⟨over,code,text,ask,name,k_⟩:=ZO;simp only at y hn;subst y;obtain⟨ZZ,Bk,ZT,DQ,kr,kt⟩:=yz w (ZF over) (J I code) (U text) (ZF ZH) (U name) (J I k_);have ZQ:=ae (h.aa ZZ ly);have U0:=ae (Z8.aa ZZ ly);have CC:=ae C;have JP:=ae HL;have PP:=ae hp;have s:A (z w0)<=A (z w):=h.lt;have JL:f<A (z w):=by obtain⟨⟨aa,ca,j,ha⟩,-⟩:=Z8;exact ah j
  have Fd:Hid (T (A (z w)+1)≠(Value.slice t (B b) r).ownBlock):=λe=>by have:=(af Z8.row _ e.c).2.1;omega
  have TN:Hid (T (A (z w))≠(Value.slice t (B b) r).ownBlock):=λe=>by have:=(af Z8.row _ e.c).2.1;omega
  clear h Z8 C HL hp;show Calls Pg 210 #[.pointer (T (Q mb 0 Z)),.pointer (T (Q f 0 Z)),ZJ #[ZF over,J I code,U text,ZF ZH,U name,J I k_]] w _;obtain⟨R,hR⟩:∃R,R=aT S n q_ jh name:=⟨_,rfl⟩
  have HR:=ae hR;simp only;rw[<-hR];clear hR;go_enter func210,ntmps210;go_wp2_with fail;clear Bk ZT;generalize World.alloc (World.alloc w _) _=W0 at ZZ DQ kr kt ZQ U0 ⊢;refine(JP q_ jh G V mk md W0 name th ZQ PP ld hn).P ?_;intro e g Z9;rw[<-HR.i] at Z9;rcases R with⟨o,x⟩|c|d;rotate_left
  ·obtain⟨u,rfl,h1,h2⟩:=Z9
   go_wp2_with fail;exact⟨rfl,u,rfl,h1,(ZZ.P s).k h2⟩
  ·obtain⟨rfl,h2⟩:=Z9
   go_wp2_with fail;exact⟨rfl,rfl,(ZZ.P s).k h2⟩
  obtain⟨M,V',ex,aq,rfl,hM,hE,m⟩:=Z9;obtain⟨JT,-,hx,sm⟩:=dm CC.ok n q_ jh name o x PP hn HR.c;have M1:=ae hM;have U1:=ae (U0.step m hE);have E1:=ae (hE.P (show (A (z w))<=A (z W0) by omega));have KW:=ae ((KX.q (X:=XN) ZZ ly s).to m);have HX:=ae hx;have JI:=ae sm;have JS:A (z w)+2<=A (z g):=by have:=m.aa.size;omega
  have Fm:Hid (g.heap[A (z w)+1]?=T (N #[ZF ZA,J I 0,U ⟨#[]⟩] 141 (0,0))):=(m.ad _ _ _ _ kr (by decide) (by decide) (by decide) λh=>h).k kr;have Hx:=(m.ad _ _ _ _ kt (by decide) (by decide) (by decide) λh=>h).k kt;have n4:ZW g (Q (A (z w)) 4 Z)=T (U name):=by simp[World.cell?,Hx]
  rw[sm];clear hM hE m hx sm JT Hx ZQ U0 kr kt;go_wp2_with fail;obtain⟨lk,qr⟩:∃l:Lk,l=⟨name,ZH,ZA⟩:=⟨_,rfl⟩
 all_goals
  obtain⟨⟨aa,ca,j,ha⟩,-⟩:=U1.i;obtain⟨JJ,-,-,-,-,-,-,e6,-,ef⟩:=j.K;have ef6:=ef 6;have hebB:A (z w0)<=f:=U1.ge;clear j ha ef;have SQ:Hid (∀V:E,(∀k,k<A (z g)->T k≠(Value.slice t (B b) r).ownBlock->V.heap[k]?=g.heap[k]?)->ZW V (Q f 6 Z)=T (Y t (B b) r)/\ZW V (Q (A (z w)) 4 Z)=T (U name)):=λV hV=>by
   have W:T f≠(Value.slice t (B b) r).ownBlock:=λe=>by obtain⟨⟨aa,ca,j,ha⟩,-⟩:=U1.i;obtain⟨_,_,cs,hc⟩:=af U1.row f e.c;exact absurd (ar j hc) (by decide)
   have JM:T (A (z w))≠(Value.slice t (B b) r).ownBlock:=TN.i;exact⟨(cq (a:=(Q f 6 Z)) (hV f JJ W)).k e6,(cq (a:=(Q (A (z w)) 4 Z)) (hV (A (z w)) (by omega) JM)).k n4⟩
  have H:=ae (SQ g.drew (λk ZP _=>rfl));have UD:Hid (EU w0 S g.drew f nm tg M b (Y t (B b) r) o V'):=U1.aa br.drew ly;have MD:Hid (MI w0 S mb mp (Y a0 S.n0 c0) (Y a1 S.n1 c1) g.drew q_ q_ o M V' ex aq):=M1.aa br.drew ly;refine aI (λV=>ZW V (Q f 6 Z)=T (Y t (B b) r)/\ZW V (Q (A (z w)) 4 Z)=T (U name)) 14 (by kernel_rfl) ?_;clear e6 n4
  iterate 10
   first|refine aO 0 (v:=?_) rfl rfl (by kernel_rfl) (λ_ _ _ h=>h) rfl ?_ H ?_|refine aO 5 (v:=?_) rfl rfl (by kernel_rfl) (λ_ _ _ h=>h) rfl ?_ H ?_
   rotate_left
   ·(rintro wz⟨s0,s1⟩;go_simp)
    (try with_reducible rfl)
   (try simp only[Act.put,yh])
  refine ai (i:=10) rfl (by kernel_rfl) λK m=>?_;go_simp;first|(guard_hyp MH;have AB:=ae ((a8 (A (z g)) g.drew).alloc ly (N #[U name,ZF ZA,ZF hb,J I 0,.pointer Z] 206)))|have AB:=ae ((a8 (A (z g)) g.drew).alloc ly (N #[U name,ZF ZH,ZF ZA,J I 0,.pointer (T (Q (M name) 0 Z))] 206))
  have UA:=ae (UD.aa AB ly);have MA:=ae (MD.aa AB ly);refine m _ _ (λ_=>SQ _ (λk ZP _=>AB.p k ZP)) ?_;clear m K
  (try simp only[Act.put,yh])
  refine ai (i:=11) rfl (by kernel_rfl) λK m=>?_;first|(guard_hyp MH;refine aU rfl (.tmp 23) (.tmp 29) 154 rfl (A (z w0)) 206 i1 (ZJ #[U ⟨#[]⟩,ZF ZA,ZF ZA,J I 0,.pointer Z]) 5 40 underlying154 hi ur n8 mv rfl (by decide) (Y t (B b) r) (B b) (fE M b) (by simp[Act.eval]) UA.row (Q (A (z g)) 0 Z) 1 1 [U name,ZF ZA,ZF hb,J I 0,.pointer Z] (by simp[Act.eval]) rfl (yy g.drew _ _ _ _ _ _) (by simp[Value.oneCell']) (by unfold maxLen;omega) (by omega) MA.lt ?_)|refine aU rfl (.tmp 43) (.tmp 49) 154 rfl (A (z w0)) 206 i1 (ZJ #[U ⟨#[]⟩,ZF ZA,ZF ZA,J I 0,.pointer Z]) 5 40 underlying154 hi ur n8 mv rfl (by decide) (Y t (B b) r) (B b) (fE M b) (by simp[Act.eval]) UA.row (Q (A (z g)) 0 Z) 1 1 [U name,ZF ZH,ZF ZA,J I 0,.pointer (T (Q (M name) 0 Z))] (by simp[Act.eval]) rfl (yy g.drew _ _ _ _ _ _) (by simp[Value.oneCell']) (by unfold maxLen;omega) (by omega) MA.lt ?_
  intro v' w3 fd O JH;have O3:=ae fd;have G3:=ae O;have ph:=ae JH;have S3:=ae (SQ w3 (λk ZP W=>(O.p k (lj ZP (by simp<;>omega)) W).k (AB.p k ZP)));obtain⟨D,ZR,rfl⟩:=bM fd;clear fd O JH;refine m _ _ (λ_=>S3) ?_;clear m K H
  (try simp only[Act.put,yh])
  iterate 2
   refine bV 12 rfl rfl (by kernel_rfl) λK m=>?_;go_simp;refine m _ _ (λ_=>S3) ?_;clear m K
   (try simp only[Act.put,yh])
  have M4:=ae (MA.tied UA G3 (v':=Y D (B b+1) ZR));first|(guard_hyp MH;have U4:=ae (UA.tied (l:=⟨name,ZA,hb⟩) (λh=>by cases h) G3.i O3.i ph.i MA.vlt))|have U4:=ae (UA.tied (l:=⟨name,ZH,ZA⟩) (λ_=>⟨x,HX,JI⟩) G3 O3 ph MA.vlt)
  rw[<-qr] at U4;have s6:=S3.1;have JQ:ZX w3 (Q f 6 Z)=ZA:=by
   obtain⟨⟨aa,ca,j,ha⟩,-⟩:=UA.i;have W:T f≠(Value.slice t (B b) r).ownBlock:=λe=>by obtain⟨_,_,cs,hc⟩:=af UA.row f e.c;exact absurd (ar j hc) (by decide)
   exact(NG (a:=(Q f 6 Z)) (G3.p f (ah j) W)).k (j.K.2.2.2.2.2.2.2.2.2 6)
  have JR:A (z g)<=A (z w3):=nX (by simp<;>omega) G3.size;have hel3:f<A (z w3):=lj JJ JR;refine ai (i:=14) rfl (by kernel_rfl) λK m=>?_;go_simp;refine m _ _ (λh=>absurd rfl h) ?_;clear m K s6 JQ
  (try simp only[Act.put,yh])
  refine ba (by kernel_rfl) ?_ _;have RB:Hid ((ZU w3 (Q f 6 Z) (Y D (B b+1) ZR)).heap[A (z w)+1]?=T (N #[ZF ZA,J I 0,U ⟨#[]⟩] 141 (0,0))):=(qh _ _ _ _ (show (A (z w))+1≠f by omega)).k ((G3.p _ (lj (show (A (z w))+1<A (z g) by omega) (by simp<;>omega)) Fd).k ((AB.p _ (by omega)).k Fm));have ZL:Hid (RepSt w0 S mb mp (Y a0 S.n0 c0) (Y a1 S.n1 c1) w (ZU w3 (Q f 6 Z) (Y D (B b+1) ZR)) q_ o M V' ex aq f tg nm (b++[lk]) (Y t (B b) r) (Y D (B b+1) ZR)):=by
   refine⟨M4.1,U4,?_,λk ZP=>?_⟩
   ·exact((KW.to (KX.q (X:=XN) (⟨AB.os,AB.tape,AB.output,AB.size,AB.p⟩:Below (A (z g)) g _) ly (by omega))).weak).k M4.2 λ_ _ h=>h
   ·rcases ph.i with e|e
    ·exact .inl (by rw[<-e];exact ZP)
    ·rw[e] at ZP
     cases ZP
     exact .inr (nX (show (A (z w))<=A (z g) by omega) (by simp<;>omega))
  generalize World.setCell w3 _ _=W4 at RB ZL ⊢;obtain⟨rl,r0,r1,r2,L⟩:=dL RB;have Id:=L 0;have JK:=L 1;have Fk:=L 2;subst qr
 focus
  clear L M4 U4;have EX:=ae (ZL.1.W x HX);obtain⟨act,j,ZN⟩:=EX.ad;rw[JI.i] at j;obtain⟨q,q0,q1,q2,q3,q4,q5,-,-,-⟩:=j.K;obtain⟨aa,na,ca,rfl⟩:∃a n c,act=Y a n c:=by
   unfold oF at ZN;split at ZN
   ·obtain⟨_,a,c,e,_⟩:=ZN;exact⟨a,_,c,e⟩
   ·exact⟨_,_,_,ZN⟩
  clear j ZN;go_wp2_with fail;refine(sj ⟨name,x.m,x.M,x.H,na,λ_=>⟨0,⟨#[]⟩,0⟩,0,λ_=>⟨⟨#[]⟩,ZA,ZA,0⟩⟩ aa ca Z 0 W4).P ?_;rintro e w5⟨rfl,ZM⟩;have JG:Hid (w5.heap[A (z w)+1]?=T (N #[ZF ZA,J I 0,U ⟨#[]⟩] 141 (0,0))):=(ZM.p _ rl).k RB;have R5:Hid (RepSt w0 S mb mp (Y a0 S.n0 c0) (Y a1 S.n1 c1) w w5 q_ o M V' ex aq f tg nm (b++[⟨name,ZH,ZA⟩]) (Y t (B b) r) (Y D (B b+1) ZR)):=⟨ZL.1.aa ZM ly,ZL.2.1.aa ZM ly,ZL.2.2.1.to (KX.q ZM ly ZL.1.lt),ZL.2.2.2⟩
  clear r0 r1 r2 Id JK Fk q0 q1 q2 q3 q4 q5 ZM;obtain⟨rl5,r0,r1,r2,L⟩:=dL JG;have Id:=L 0;have JK:=L 1;have Fk:=L 2;clear L;obtain⟨kb,n9⟩:∃kb,kb=decide (¬ x.m=2):=⟨_,rfl⟩
  have JO:=ae n9;simp only;rw[<-n9];clear n9;go_wp2_with fail;refine bp (v:=ZJ #[ZF kb,J I x.M,U x.H]) (by simp[results,results210,go_sem,r0,r1,r2]) rfl ?_;show yA w0 S mb mp (Y a0 S.n0 c0) (Y a1 S.n1 c1) q_ jh G V w f tg nm name b (Y t (B b) r) _ _ (.inl (o,x));refine⟨by rw[JO.i],M,V',ex,aq,Y D (B b+1) ZR,?_,E1⟩;have X0:=R5.set JG.i (by decide) s (BV _) 0 (ZF kb);have X1:=X0.1.set X0.2 (by decide) s (BV _) 1 (J I x.M);have X2:=X1.1.set X1.2 (by decide) s (BV _) 2 (U x.H);exact X2.1
 focus
  clear L M4 U4;go_wp2_with fail;refine bp (v:=ZJ #[ZF hb,J I 0,U ⟨#[]⟩]) (by simp[results,results210,go_sem,r0,r1,r2]) rfl ⟨rfl,Y D (B b+1) ZR,?_⟩;have X0:=ZL.set RB.i (by decide) s (BV _) 0 (ZF hb);have X1:=X0.1.set X0.2 (by decide) s (BV _) 1 (J I 0);have X2:=X1.1.set X1.2 (by decide) s (BV _) 2 (U ⟨#[]⟩);exact X2.1
end
def FU (g f y_ j_:Nat)(w:E):Calls Pg 154 #[ZJ #[Y (T (Q g f Z)) y_ j_]] w λe w'=>∃b,e=ZI (.func (.func 174) #[] #[.pointer (T (Q b 0 Z))])/\(A (z w))<=b/\MAt w' b (Y (T (Q g f Z)) y_ j_) m0/\(∃h,w'.heap[b]?=T (N h 254 (0,0)))/\Below (A (z w)) w w':=by
 have j:=ae ((BS w).alloc ly (N #[Y (T (Q g f Z)) y_ j_] 37));have k0:ZW (ZV w (N #[Y (T (Q g f Z)) y_ j_] 37)) (Q (A (z w)) 0 Z)=T (Y (T (Q g f Z)) y_ j_):=by simp
 have z0:A (z (ZV w (N #[Y (T (Q g f Z)) y_ j_] 37)))=A (z w)+1:=by simp
 have l:=ae (vd (ZV w (N #[Y (T (Q g f Z)) y_ j_] 37)) (T (Q g f Z)) y_ j_);have i:=ae (by have:=l.i;rw[z0] at this;exact this);have m:=ae (j.alloc j.size (N (fD (Y (T (Q g f Z)) y_ j_)) 254));have n:Hid (∃h,((ZV w (N #[Y (T (Q g f Z)) y_ j_] 37)).alloc (N (fD (Y (T (Q g f Z)) y_ j_)) 254)).heap[A (z w)+1]?=T (N h 254 (0,0))):=by have h2:=gM (ZV w (N #[Y (T (Q g f Z)) y_ j_] 37)) (N (fD (Y (T (Q g f Z)) y_ j_)) 254);rw[z0] at h2;exact⟨_,h2⟩
 go_enter func154,ntmps154
 go_wp2_with (first
  |(refine ve rfl 254 #[(1,.tmp 5)] rfl [(1,Y (T (Q g f Z)) y_ j_)] (fD (Y (T (Q g f Z)) y_ j_)) (by simp[Act.eval]) (Bu _ _ _) ?_)
  |(refine wpList_store_row rfl 254 (.tmp 3) (.tmp 6) rfl (A (z w)+1) (fD (Y (T (Q g f Z)) y_ j_)) rfl rfl _ _ (by rw[<-z0];exact heap_alloc_last _ _) (infoM.k (by rw[jq])) (by rw[jq];rfl) (sK _ _ _) ?_;rw[<-z0,World.setRow_alloc_new])
  |fail)
 go_ret;exact⟨_,rfl,by first|(simp;done)|(simp;omega),i,n,m⟩
section
variable {w0 w w':E}{S:x_}{mb mp:Nat}{s0 s1 mk md:ZB}{y_ nk np:Nat}{F:List UInt8->Option ZB}{ks ps:List ZB}{jh:List zt}{G:F_->Nat}{V:F_->ZB}
def MIg.ac{fz:Nat × Nat}(h:MIg w0 S mb mp s0 s1 w y_ F nk ks np ps jh G V mk md)(hb:w.heap[b]?=T (N j t fz))(y:vU t)(r:A (z w0)<=b)(q:zd b w w'):MIg w0 S mb mp s0 s1 w' y_ F nk ks np ps jh G V mk md:=by
 have Z9:KX (A (z w0)) (λi=>i=b) w w':=KX.of_only q rfl h.lt r;obtain⟨Z8,ZZ,C,s,u⟩:=y;refine h.kx Z9 (λi o hi p=>q.p i (ah hi) p) (λe=>?_) (λe=>?_) (λk f e=>?_) (λk f e=>?_) λx m=>⟨λe=>?_,λk f e=>?_⟩
 {subst e;exact C (ar hb h.ab)};{obtain⟨es,c,n⟩:=h.map.isMap;rw[e,hb] at n;cases n};{subst e;obtain⟨_,_,j,g⟩:=af h.rmk _ f;exact Z8 (ar hb g)};{subst e;obtain⟨_,_,j,g⟩:=af h.X _ f;exact ZZ (ar hb g)};{obtain⟨act,l,_⟩:=(h.W x m).ad;rw[e] at l;exact s (ar hb l)};{subst e;obtain⟨_,_,j,g⟩:=af (h.W x m).row _ f;exact u (ar hb g)}
def EU.ac{j:Nat}{g:List Lk}{v:ZB}{m:Array ZB}{fz:Nat × Nat}(h:EU w0 S w j nm tg G g v jh V)(hb:w.heap[b]?=T (N m t fz))(s:vU t)(o:zd b w w'):EU w0 S w' j nm tg G g v jh V:=by
 obtain⟨⟨a,j_,f,Z8⟩,n,l,u,i,has⟩:=h;obtain⟨t1,t2,t3,q,r⟩:=s;refine⟨⟨a,j_,(o.p _ (ah f) λe=>?_).k f,Z8⟩,n,b9 l λk x=>?_,u,i,has⟩;{subst e;exact q (ar hb f)};{obtain⟨_,p,m,y⟩:=af l _ x;exact o.p k p λe=>r (ar hb (e ▸ y))}
def MIg.entOnly{f:Nat}{fz:Nat × Nat}(h:MIg w0 S mb mp s0 s1 w y_ F nk ks np ps jh G V mk md)(hb:w.heap[f]?=T (N j 156 fz))(r:∀x∈jh,G x.e≠f)(q:A (z w0)<=f)(p:zd f w w'):MIg w0 S mb mp s0 s1 w' y_ F nk ks np ps jh G V mk md:=by
 have s:KX (A (z w0)) (λi=>i=f) w w':=KX.of_only p rfl h.lt q;refine h.kx s (λi o hi n=>p.p i (ah hi) n) (λe=>?_) (λe=>?_) (λk b e=>?_) (λk b e=>?_) λx m=>⟨λe=>r x m e,λk b e=>?_⟩
 {subst e;exact absurd (ar hb h.ab) (by decide)};{obtain⟨es,c,l⟩:=h.map.isMap;rw[e,hb] at l;cases l};{subst e;obtain⟨_,_,j,g⟩:=af h.rmk _ b;exact absurd (ar hb g) (by decide)};{subst e;obtain⟨_,_,j,g⟩:=af h.X _ b;exact absurd (ar hb g) (by decide)};{subst e;obtain⟨_,_,j,g⟩:=af (h.W x m).row _ b;exact absurd (ar hb g) (by decide)}
end
def MAt.ad{g:ZB}{m:Mst}(h:MAt w b g m)(hb:w'.heap[b]?=w.heap[b]?)(i:A (z w)<=A (z w')):MAt w' b g m:=
 ⟨lj h.1 i,λj f=>⟨(cq (a:=(Q b j Z)) hb).k (h.2 j f).1,(NG (a:=(Q b j Z)) hb).k (h.2 j f).2⟩⟩
def TB (w:E)(g:Nat)(t:Turn):Prop:=w.heap[g]?=T (N #[ZF t.L,J I t.M,U t.H,ZF t.ask,U t.e,J I t.j] 138 (0,0))
def TB.K{t:Turn}(h:TB w g t):g<A (z w)/\ZW w (Q g 0 Z)=T (ZF t.L)/\ZW w (Q g 1 Z)=T (J I t.M)/\ZW w (Q g 2 Z)=T (U t.H)/\ZW w (Q g 3 Z)=T (ZF t.ask)/\ZW w (Q g 4 Z)=T (U t.e)/\ZW w (Q g 5 Z)=T (J I t.j)/\∀j,ZX w (Q g j Z)=ZA:=by unfold TB at h;refine⟨ah h,?_,?_,?_,?_,?_,?_,λj=>?_⟩;all_goals simp[World.cell?,World.frozen?,h]
def TB.put{u:Turn}(h:TB w g u)(t:Turn):TB (fY w g t) g t:=
 aw (aw (aw (aw (aw (aw h (j:=0) _) (j:=1) _) (j:=2) _) (j:=3) _) (j:=4) _) (j:=5) _
def TB.ac{t:Turn}(h:TB w g t)(f:zd b w w')(i:g≠b):TB w' g t:=(f.p g (ah h) i).k h
def ContOk (S:x_)(tg:Nat)(b:List aD)(H:Halt):Prop:=∀(y:Nat->aD) (n:Nat),B b<=n->(∀i,i<B b->y i=yL b i)->eC (S.f1 tg).u (S.f1 tg).h y n H=cA (S.f1 tg).u (S.f1 tg).h y n 2001 0 0 0 []
def ContOk.turn{b:List aD}{H:Halt}{m:Mst}(h:ContOk S tg b H)(g:fh m H)(hL:gP (B b) H):m.t=bK S tg b:=by rw[<-oP (f:=(S.f1 tg).u) (y_:=(S.f1 tg).h) (y:=yL b) g hL];exact h (yL b) (B b) ly λ_ _=>rfl
def ContOk.step{b:List aD}{a:Bool}{s:List F_}{st:Nat}{g:Halt}{r:aD}(h:ContOk S tg b (.inr (a,nm,s,p,st,(B b+1))))(j:∀y n,B b+1<=n->y (B b+1 - 1)=r->eC (S.f1 tg).u (S.f1 tg).h y n (.inr (a,nm,s,p,st,(B b+1)))=eC (S.f1 tg).u (S.f1 tg).h y n g):ContOk S tg (b++[r]) g:=by intro y n hn f;rw[cM,AI] at hn f;rw[<-j y n hn (by rw[QS,f _ (eL _),GJ])];exact h y n (by omega) λi hi=>by rw[f i (by omega),Cb b r hi]
structure RI (w0:E)(S:x_)(mb mp:Nat)(s0 s1:ZB)(w:E)(n:Nat)(q_:List F_)(eb tg:Nat)(nm:F_)(b:Nat)(cv:ZB)(tb:Nat)(made0:List zt)(G0:F_->Nat)(V0:F_->ZB)(R0:Out (Turn × List Lk))(wr:E)(ys:List aD)(ls:List Lk)(jh:List zt)(G:F_->Nat)(V:F_->ZB)(mk md v:ZB)(m:Mst)(H:Halt):Prop where
 mi:MI w0 S mb mp s0 s1 wr q_ q_ jh G V mk md
 pg:PG S q_ jh
 rg:RG S jh ys ls
 room:eX S q_ jh (201 - (B ys))
 eu:EU w0 S wr eb nm tg G ls v jh V
 ma:MAt wr b cv m
 ty:∃cs,wr.heap[b]?=T (N cs 254 (0,0))
 tb:TB wr tb m.t
 st:fh m H
 lk:gP (B ys) H
 co:ContOk S tg ys H
 run:bT S (aT S n q_) tg (201 - (B ys)) jh ys ls=R0
 le:B ys<=200
 ext:Ext (A (z w)) made0 jh G0 G V0 V
 kx:KX (A (z w0)) (λi=>i=eb) w wr
 vn:∀k,v.ownBlock=T k->A (z w)<=k
def Ig (w0:E)(S:x_)(mb mp:Nat)(s0 s1:ZB)(q_:List F_)(jh:List zt)(G:F_->Nat)(V:F_->ZB)(w:E)(f tg:Nat)(nm:F_)(e:Ending)(w':E):Out (Turn × List Lk)->Prop
 |.inl (made',x)=>e=ZI (.tuple #[])/\∃b h l g j,MI w0 S mb mp s0 s1 w' q_ q_ made' b h l g/\EntAt w0 S b w' f j ⟨nm,3,x.1.M,x.1.H,tg,x.2⟩/\(∀y∈made',b y.e≠f)/\(∀k,j.ownBlock=T k->A (z w)<=k)/\Ext (A (z w)) jh made' G b V h/\KX (A (z w0)) (λi=>i=f) w w'
 |.inr (.inl c)=>∃v,e=.panicked [{ v:=.iface 235 (ZJ #[v]),recovered:=ZA }]/\ZY w' (A (z w0)) 9 1 v (B c) (bO c)/\Below (A (z w0)) w w'
 |.inr (.inr d)=>e=.panicked [{ v:=.iface 237 (ZJ #[U d]),recovered:=ZA }]/\Below (A (z w0)) w w'
section
variable {w0:E}{S:x_}{a0 a1:O_}{c0 c1 mb mp:Nat}{q_:List F_}
def FV (C:Ctx w0 S a0 c0 a1 c1)(n:Nat)(HL:jX w0 S mb mp (Y a0 S.n0 c0) (Y a1 S.n1 c1) n)(o:List zt)(G0:F_->Nat)(V0:F_->ZB)(JQ JH:ZB)(w:E)(q tg:Nat)(nm:F_)(Kt:B q_+n=60)(h:MI w0 S mb mp (Y a0 S.n0 c0) (Y a1 S.n1 c1) w q_ q_ o G0 V0 JQ JH)(hp:PG S q_ o)(DE:eX S q_ o 201)(Kl:tg<S.n1)(hu:EU w0 S w q nm tg G0 [] (Y Z 0 0) o V0):Calls Pg 205 #[.pointer (T (Q mb 0 Z)),.pointer (T (Q q 0 Z))] w λe w'=>Ig w0 S mb mp (Y a0 S.n0 c0) (Y a1 S.n1 c1) q_ o G0 V0 w q tg nm e w' (bT S (aT S n q_) tg 201 o [] []):=by
 obtain⟨JW,hc1,JY⟩:=bJ (C.ok.u tg Kl);obtain⟨⟨av,j_,L,ZN⟩,ro,Fk,ex,-,-⟩:=hu;obtain⟨ZP,R,rfl,ur⟩:∃ZP R,av=T (Q ZP R Z)/\Q_ w0 ZP R (S.f1 tg).h (S.f1 tg).u:=by
  rcases ZN with h|⟨b,off,e,hr⟩
  {omega};{exact⟨b,off,e,hr⟩}
 obtain⟨hel,-,-,-,-,e4,-,-,-,-⟩:=L.K;have HU:Hid (EU w0 S w q nm tg G0 [] (Y Z 0 0) o V0):=⟨⟨_,_,L,ZN⟩,ro,Fk,ex,λ_ _ k hk=>(by cases hk),λ_ hl=>absurd hl nj⟩
 have HM:=ae h;have HP:=ae hp;have HRI:=ae ur;have CC:=ae C;have Ky:=ae HL;have ZQ:A (z w0)<=A (z w):=h.lt;have Fm:Hid (∀W b,Below (A (z w0)) w0 W->A (z w0)<=b->Env W b ZP R (S.f1 tg).h (S.f1 tg).u):=λW b hW hb=>⟨ur.aa hW ly,C.tab.aa hW C.tab.1,C.pow.aa hW ly,lj ur.1 hb,lj C.tab.1 hb,lj C.pow.lt hb⟩
 obtain⟨R0,JS⟩:∃R0,R0=bT S (aT S n q_) tg 201 o [] []:=⟨_,rfl⟩
 rw[<-JS];have Kz:=ae JS;clear h hp ur C HL L ZN Fk ex JS;obtain⟨H0,JV⟩:=sG (S.f1 tg).u (S.f1 tg).h 2001 0 0 0 [] (by omega) (by omega);have Kd:Hid (Goes (S.f1 tg).u (S.f1 tg).h m0 H0):=.inl ⟨rfl,0,0,0,[],⟨trivial,rfl,by simp,rfl,rfl,rfl,λx hx=>absurd hx nj,by omega,by omega,by omega⟩,JV⟩;have JG:=ae (λy n=>pq (S.f1 tg).u (S.f1 tg).h y n 2001 0 0 0 [] H0 (by omega) rfl JV);clear JV;go_enter func205,ntmps205;go_wp2_with fail;refine(FU ZP R (S.f1 tg).h j_ w).P ?_;rintro e w1⟨b,rfl,hb,Kj,JR,J0⟩;have Kr:=ae Kj;have Ka:=ae JR;have B1:=ae J0;clear Kj JR J0 e4;go_wp2_with fail;refine(qD b ZP R (S.f1 tg).h j_ (S.f1 tg).u m0 H0 ⟨ZA,0,⟨#[]⟩⟩ _ Kr (Fm _ _ (HM.ak.k (B1.P ZQ)) (nX ZQ hb)) rfl (by omega) JW Kd).P ?_;rintro e w2⟨ZM,rfl,Kh,J9,la⟩;have Id:=ae Kh;have J6:=ae J9;have O2:=ae la;have Kc:Hid (∃ZT,w2.heap[b]?=T (N ZT 254 (0,0))):=by obtain⟨ZT,Z9⟩:=Ka.i;exact la.ty ZT _ _ Z9
 have KN:A (z w1)<=A (z w2):=la.size;have B2:=ae (B1.k (la.aa hb B1.size));clear Kh J9 la;simp only[Turn.v];obtain⟨W3,mv⟩:∃W:E,ZV w2 (N #[ZF ZM.t.L,J I ZM.t.M,U ZM.t.H,ZF ZM.t.ask,U ZM.t.e,J I ZM.t.j] 138)=W:=⟨_,rfl⟩
 obtain⟨A3,-,-⟩:=nb1 mv;have n9:=ae mv;clear mv;have JI:Hid (TB W3 (A (z w2)) ZM.t):=by rw[<-n9.i];exact gM _ _
 have ld:b<A (z w2):=Id.lt;go_wp2;rw[n9.i];clear n9;obtain⟨tb,Kg⟩:∃tb,tb=A (z w2):=⟨_,rfl⟩
 rw[<-Kg] at JI ⊢;have Kv:A (z w)<=tb:=by have:=B2.size;omega
 have hbtb:b<tb:=by omega
 have B3:=ae (B2.k (A3.P B2.size));have Kq:Hid (RI w0 S mb mp (Y a0 S.n0 c0) (Y a1 S.n1 c1) w n q_ q tg nm b (Y (T (Q ZP R Z)) (S.f1 tg).h j_) tb o G0 V0 R0 W3 [] [] o G0 V0 JQ JH (Y Z 0 0) ZM H0):=
  ⟨HM.aa B3 ly,HP,iv S o,DE,HU.aa B3 ly,Id.aa A3 ld,(by obtain⟨ZT,Z9⟩:=Kc.i;exact⟨ZT,(A3.p b ld).k Z9⟩),JI,J6,(JG (yL []) 0).2,λy n _ _=>(JG y n).1.c,Kz.c,DW _,Ext.refl _ _ _ _,KX.q B3 ly ZQ,λk hk=>(by cases hk)⟩
 clear Kg JI A3 B2 Kr Ka Id Kc J6 O2 Kd JG B1 HM HU DE HP B3 KN ld;go_loopg [] 202 (λg wr=>∃p ZO jh G V mk md v m H,Hid (RI w0 S mb mp (Y a0 S.n0 c0) (Y a1 S.n1 c1) w n q_ q tg nm b (Y (T (Q ZP R Z)) (S.f1 tg).h j_) tb o G0 V0 R0 wr p ZO jh G V mk md v m H)/\201 - (B p)<=g);case atStart=>exact⟨[],[],o,G0,V0,JQ,JH,_,ZM,H0,Kq,by simp⟩
 case round =>
  clear Kq;obtain⟨p,ZO,jh,G,V,mk,md,v,m,H,f,hg⟩:=hrel;have HT:=ae (f.co.turn f.st f.lk);obtain⟨tbl,t0,t1,t2,t3,t4,t5,tf⟩:=f.tb.K;obtain⟨JJ,JK,JO,JT,JN,JL⟩:=al6 tf;clear tf;have hbw:A (z w)<=b:=hb;have KO:q≠b:=by omega
  have O:q≠tb:=by omega
  cases ho:m.t.L with
  |true =>
   rw[ho] at t0;have KI:Hid (R0=.inl (jh,(m.t,ZO))):=by show _=_;rw[<-f.run,show 201 - (B p)=(200 - (B p))+1 by have:=f.le;omega,bT,<-HT.i,eT ho]
   obtain⟨⟨ax,cx,L,ZN⟩,-⟩:=f.eu;obtain⟨hel2,-,-,e2,e3,-,-,-,-,ef⟩:=L.K;have ef2:=ef 2;have ef3:=ef 3;have GS:=ae L;have KJ:=ae ZN;clear L ZN ef;obtain⟨code,ZL⟩:∃code,code=m.t.M:=⟨_,rfl⟩
   obtain⟨text,aq⟩:∃text,text=m.t.H:=⟨_,rfl⟩
   rw[<-ZL] at t1;rw[<-aq] at t2;have HC:=ae ZL;have HX:=ae aq;clear ZL aq;go_wp2_with fail;clear t0 t3 t4 t5 JJ JK JO JT JN JL;refine wp_region_held_drew (S:=λV=>ZW V (Q tb 1 Z)=T (J I code)/\ZW V (Q tb 2 Z)=T (U text)) (by as_aux_lemma=>kernel_rfl) ⟨t1,t2⟩ λhS=>?_;have HS:=ae hS;clear hS;iterate 9
    first|refine aN 0 (v:=?_) rfl rfl (by as_aux_lemma=>kernel_rfl) (λ_ _ _ h=>h) rfl ?_ HS ?_|refine aN 4 (v:=?_) rfl rfl (by as_aux_lemma=>kernel_rfl) (λ_ _ _ h=>h) rfl ?_ HS ?_
    rotate_left
    ·(rintro wz⟨s0,s1⟩;go_simp)
     (try with_reducible rfl)
    (try simp only[Act.put,yh])
   have S5:Hid ((wr.drew.setCell (Q q 2 Z) (J I code)).cell? (Q tb 1 Z)=T (J I code)/\(wr.drew.setCell (Q q 2 Z) (J I code)).cell? (Q tb 2 Z)=T (U text)):=⟨(K_ _ _ _ _ O).k HS.1,(K_ _ _ _ _ O).k HS.2⟩
   refine aL (i:=9) rfl (by as_aux_lemma=>kernel_rfl) λK hK=>?_;go_simp;refine hK _ _ S5 ?_;clear hK K HS
   (try simp only[Act.put,yh])
   have HS:=S5;iterate 3
    refine aN 10 (v:=?_) rfl rfl (by as_aux_lemma=>kernel_rfl) (λ_ _ _ h=>h) rfl ?_ HS ?_;rotate_left
    ·(rintro wz⟨s0,s1⟩;go_simp)
     (try with_reducible rfl)
    (try simp only[Act.put,yh])
   have S6:Hid (((wr.drew.setCell (Q q 2 Z) (J I code)).setCell (Q q 3 Z) (U text)).cell? (Q tb 1 Z)=T (J I code)/\((wr.drew.setCell (Q q 2 Z) (J I code)).setCell (Q q 3 Z) (U text)).cell? (Q tb 2 Z)=T (U text)):=⟨(K_ _ _ _ _ O).k S5.1,(K_ _ _ _ _ O).k S5.2⟩
   refine aL (i:=13) rfl (by as_aux_lemma=>kernel_rfl) λK hK=>?_;go_simp;refine hK _ _ S6 ?_;clear hK K
   (try simp only[Act.put,yh])
   refine wpAnyH_done (by as_aux_lemma=>kernel_rfl) ?_ _;have OE:Hid (zd q wr (ZU (ZU wr (Q q 2 Z) (J I code)) (Q q 3 Z) (U text)).drew):=(ce (ce (zd.refl q wr) 2 _) 3 _).drew;have Km:Hid (EntBlk (ZU (ZU wr (Q q 2 Z) (J I code)) (Q q 3 Z) (U text)).drew q nm 3 code text (Y ax (S.f1 tg).h cx) v 0):=aw (aw GS (j:=2) _) (j:=3) _;generalize World.drew (World.setCell (World.setCell wr _ _) _ _)=W6 at OE Km ⊢;go_end0;rw[KI.i];refine⟨rfl,G,V,mk,md,v,f.mi.entOnly GS f.eu.free ro OE,⟨⟨_,by rw[<-HC.i,<-HX.i];exact Km,by rw[oF,eT rfl];exact⟨Kl,_,_,rfl,KJ⟩⟩,ro,b9 f.eu.row λk hk=>?_⟩,f.eu.free,f.vn,f.ext,f.kx.k (KX.of_only (X:=λi=>i=q) OE rfl f.mi.lt ro) (λ_ _ h=>h)⟩;obtain⟨_,hl,ZT,Z9⟩:=af f.eu.row k hk;exact OE.p k hl λe=>absurd (ar GS (e ▸ Z9)) (by decide)
  |false =>
   obtain⟨a,ZZ,s2,pp,st,l,rfl⟩:=oQ f.st ho;have el:l=B p+1:=f.lk;subst el;obtain⟨Bk,n8,JM,-⟩:=f.st;have hylt:B p<200:=by have:=n8.lk;omega
   have HTT:=ae Bk;rw[Bk] at t0 t1 t2 t3 t4 t5;simp only at t0 t1 t2 t3 t4 t5;have HSM:=ae n8;have qr:=ae JM;have Ke:Hid (bK S tg p=⟨ZA,0,⟨#[]⟩,a,ZZ,st⟩):=HT.c.k Bk;have Kk:B ZO<=200:=by have:=f.rg.len;omega
   clear Bk n8 JM;have JZ:Hid (∀k,v.ownBlock=T k->k≠b/\k≠tb):=λk hk=>by obtain⟨_,_,ZT,Z9⟩:=af f.eu.row k hk;obtain⟨cs2,JY⟩:=f.ty;exact⟨λe=>absurd (ar JY (e ▸ Z9)) (by decide),λe=>absurd (ar (show wr.heap[tb]?=_ from f.tb) (e ▸ Z9)) (by decide)⟩
   cases a
   focus
    go_wp2_with fail;clear t0 t1 t2 t3 t4 t5 JJ JK JO JT JN JL;refine(sY.1 CC wr q tg nm ZO v ⟨ZA,0,⟨#[]⟩,ZA,ZZ,st⟩ f.mi f.eu Kk rfl).P ?_;rintro e w3⟨rfl,v',fd⟩;have ZS:=ae fd;clear fd;obtain⟨M,ph⟩:∃M,M=fL S ZZ:=⟨_,rfl⟩
    have Kn:=ae ph;simp only at ZS ⊢;rw[<-ph] at ZS ⊢;clear ph;have NX:Hid (bT S (aT S n q_) tg (200 - (B p)) jh (p++[⟨M,0,⟨#[]⟩⟩]) (ZO++[⟨ZZ,ZA,M⟩])=R0):=by show _=_;have:=f.run;rw[show 201 - (B p)=(200 - (B p))+1 by omega,bT,Ke.i,eI (by simp),eT rfl,<-Kn.i] at this;exact this
    have Ks:=ae f.pg;have Fd:Hid (RG S jh (p++[⟨M,0,⟨#[]⟩⟩]) (ZO++[⟨ZZ,ZA,M⟩])):=f.rg.add (by rw[Kn.i];exact lv _ _) qr (λh=>by cases h);have J8:Hid (eX S q_ jh (200 - (B p))):=by have:=f.room;unfold eX at this ⊢;show _<=_;omega
    have J7:=ae f.ext;have DQ:Hid ((⟨M,0,⟨#[]⟩⟩:aD).H.size<=2000):=DW _
   rotate_left;focus
    go_wp2_with fail;clear t0 t1 t2 t3 t4 t5 JJ JK JO JT JN JL;refine(sY.2 CC n Ky wr q tg nm ZO v ⟨ZA,0,⟨#[]⟩,ZH,ZZ,st⟩ Kt f.mi f.pg (by have:=f.room;unfold eX at this ⊢;omega) f.eu Kk rfl qr).P ?_;intro e w3 Z8;simp only at Z8;have s:=f.run;rw[show 201 - (B p)=(200 - (B p))+1 by omega,bT,Ke.i,eI (by simp),eI (by simp)] at s;simp only at s;rcases hr:aT S n q_ jh ZZ with⟨ZR,x⟩|c|d;rotate_left
    ·rw[hr] at Z8 s
     obtain⟨u,rfl,h1,h2⟩:=Z8;subst s;go_wp2_with fail;exact⟨rfl,u,rfl,h1,f.kx.aa.k h2⟩
    ·rw[hr] at Z8 s
     obtain⟨rfl,h2⟩:=Z8;subst s;go_wp2_with fail;exact⟨rfl,rfl,f.kx.aa.k h2⟩
    rw[hr] at Z8 s;dsimp only at s;obtain⟨rfl,G2,V2,mk2,md2,v',fd,Hx⟩:=Z8;obtain⟨th,-,hx,Kp⟩:=dm CC.ok n q_ jh ZZ ZR x f.pg qr hr;have At:=iq S n q_ jh ZZ ZR x hr;have ZS:=ae fd;have NX:=ae s;have Ks:=ae th;have JU:gF x=⟨decide (¬ x.m=2),x.M,x.H⟩:=rfl;have Fd:Hid (RG S ZR (p++[gF x]) (ZO++[⟨ZZ,ZH,ZA⟩])):=(f.rg.P Hx.mem).add (lw (th.W x hx)) qr (λ_=>⟨x,hx,Kp⟩);have J8:Hid (eX S q_ ZR (200 - (B p))):=by have:=f.room;unfold eX at this ⊢;unfold fO at At;show _<=_;omega
    have J7:=ae (f.ext.k Hx f.kx.aa.size);have DQ:Hid ((gF x).H.size<=2000):=(th.W x hx).tx;rw[JU] at NX Fd DQ;clear fd s th hx Kp At Hx hr JU;obtain⟨kb,J4⟩:∃kb,kb=decide (¬ x.m=2):=⟨_,rfl⟩
    rw[<-J4] at NX Fd DQ ⊢;clear J4
   all_goals
    have BK:Hid (w3.heap[b]?=wr.heap[b]?):=by obtain⟨ZT,Z9⟩:=f.ty;exact ZS.2.2.1.ad b _ _ _ Z9 (by decide) (by decide) (by decide) λh=>by rcases h with h|h;exact KO h.c;exact(JZ b h).1 rfl
    have TK:Hid (TB w3 tb m.t):=(ZS.2.2.1.ad tb _ _ _ f.tb (by decide) (by decide) (by decide) λh=>by rcases h with h|h;exact O h.c;exact(JZ tb h).2 rfl).k f.tb;have Ku:A (z wr)<=A (z w3):=ZS.2.2.1.aa.size;have KQ:=ae (f.ma.ad BK Ku);have KH:Hid (∃ZT,w3.heap[b]?=T (N ZT 254 (0,0))):=by obtain⟨ZT,Z9⟩:=f.ty;exact⟨ZT,BK.k Z9⟩
    go_wp2_with fail;refine(sL b ZP R (S.f1 tg).h j_ (S.f1 tg).u m _ ZZ s2 pp st (B p+1) ⟨_,_,_⟩ _ KQ (Fm _ _ ZS.1.ak (nX ZQ hb)) f.st (by omega) DQ (by omega) JW).P ?_;rintro e w4⟨m2,H2,rfl,Ki,Kb,Ko,Kf,P⟩;have KP:=ae Ki;have KU:=ae Kb;have KM:=ae Ko;have KT:=ae (f.co.step Kf);have O4:=ae P;obtain⟨cs3,bt⟩:=KH.i;have J5:=ae (ZS.1.ac bt (by decide) (nX ZQ hb) P);have Kx:=ae (ZS.2.1.ac bt (by decide) P);have sm:=ae (TK.ac P (by omega));have Kw:=ae (P.ty _ _ _ bt);have K4:=ae ((f.kx.k ZS.2.2.1 (λi hi h=>by rcases h with h|h;exact h;exact absurd (f.vn i h) (by omega))).k (KX.of_only (X:=λi=>i=b) P rfl ZS.1.lt (nX ZQ hb)) (λi hi h=>by have e2:i=b:=h;omega));have La:Hid (∀k,v'.ownBlock=T k->A (z w)<=k):=λk hk=>by
     rcases ZS.2.2.2 k hk with h|h
     ·exact f.vn k h
     ·exact nX f.kx.aa.size h
    clear Ki Kb Ko Kf P bt;obtain⟨ul,u0,u1,u2,u3,u4,u5,uf⟩:=sm.K;obtain⟨uf0,uf1,uf2,uf3,uf4,uf5⟩:=al6 uf;clear uf;obtain⟨g,rfl⟩:∃g,gk=g+1:=⟨gk - 1,by omega⟩
    have KZ:=ae (sm.put m2.t);have OP:Hid (zd tb w4 (fY w4 tb m2.t)):=vf m2.t;have JX:A (z w0)<=tb:=nX ZQ Kv;have D:∀r:aD,(p++[r]).length=B p+1:=λr=>by simp
    have KV:Hid (RI w0 S mb mp (Y a0 S.n0 c0) (Y a1 S.n1 c1) w n q_ q tg nm b (Y (T (Q ZP R Z)) (S.f1 tg).h j_) tb o G0 V0 R0 (fY w4 tb m2.t) (p++[_]) (ZO++[_]) _ _ _ _ _ v' m2 H2):=
     ⟨J5.ac sm (by decide) JX OP,Ks,Fd,(by rw[D,show 201 - (B p+1)=200 - (B p) by omega];exact J8),Kx.ac sm (by decide) OP,KP.boxed (by omega) m2.t,(by obtain⟨ZT,Z9⟩:=Kw.i;exact⟨ZT,(OP.p b (ah Z9) (by omega)).k Z9⟩),KZ,KU,(by rw[D];exact KM),KT,(by rw[D,show 201 - (B p+1)=200 - (B p) by omega];exact NX),(by rw[D];omega),J7,K4.k (KX.of_only (X:=λi=>i=tb) OP rfl J5.lt JX) (λi hi h=>by have e2:i=tb:=h;omega),La⟩
    simp only[Turn.v];go_wp2;go_roundg g;case measure=>omega
    case rel=>exact⟨_,_,_,_,_,_,_,_,_,_,KV,by rw[D];omega⟩
end
structure KS (Z9:Nat)(X:Nat->Prop)(w w':E):Prop where
 aa:Below Z9 w w'
 ad:∀i cs t fz,w.heap[i]?=T (N cs t fz)->t≠9->t≠168->t≠112->¬ X i->w'.heap[i]?=w.heap[i]?
def KS.k{ZL:Nat->Prop}{b:E}(h:KS Z9 X w w')(k:KS Z9 ZL w' b)(j:∀i,i<A (z w)->ZL i->X i):KS Z9 X w b:=
 ⟨h.aa.k k.aa,λi g t fz hi h1 h2 f hX=>by
  have e:=h.ad i g t fz hi h1 h2 f hX;rw[<-e]
  exact k.ad i g t fz (e.k hi) h1 h2 f λl=>hX (j i (ah hi) l)⟩
def KS.to{b:E}(h:KS Z9 X w w')(k:KS Z9 XN w' b):KS Z9 X w b:=h.k k λ_ _ h=>h.elim
def KS.q (h:Below C w w')(b:A (z w)<=C)(f:Z9<=A (z w)):KS Z9 X w w':=
 ⟨h.P (nX f b),λi _ _ _ hi _ _ _ _=>h.p i (lj (ah hi) b)⟩
def KS.of_grown{row:Option Nat}(h:w.grownBy w' row)(m:Z9<=A (z w))(g:∀j,row=T j->Z9<=j/\(X j\/∀f t fz,w.heap[j]?=T (N f t fz)->t=9\/t=168\/t=112)):KS Z9 X w w':=by
 refine⟨⟨h.os,h.tape,h.output,h.size,λk n=>h.p k (lj n m) λe=>?_⟩,λi f t fz hi h1 h2 l hX=>h.p i (ah hi) λe=>?_⟩;{have:=(g k e.c).1;omega};{rcases(g i e.c).2 with b|b;{exact hX b};{rcases b f t fz hi with e|e|e;{exact h1 e};{exact h2 e};{exact l e}}}
def KS.setCell (w:E){j:Nat}(hb:Z9<=b)(f:X b\/∀g t fz,w.heap[b]?=T (N g t fz)->t=9\/t=168\/t=112)(v:ZB):KS Z9 X w (ZU w (Q b j Z) v):=by
 refine⟨(a8 Z9 w).setCell hb v,λi g t fz hi h1 h2 h hX=>?_⟩;refine qh _ _ _ _ λe=>?_;simp at e;subst e;rcases f with f|f;{exact hX f};{rcases f g t fz hi with e|e|e;{exact h1 e};{exact h2 e};{exact h e}}
def ShBox (w:E)(hb:Nat)(s0 s1 md or st:ZB)(g:Int)(sx:F_)(f:ZB)(b:Bool):Prop:=w.heap[hb]?=T (N #[s0,s1,md,or,st,J I g,U sx,f,ZF b] 112 (0,0))
def ShBox.K{s0 s1 st:ZB}{g:Int}{b:Bool}(h:ShBox w hb s0 s1 md or st g sx f b):hb<A (z w)/\ZW w (Q hb 0 Z)=T s0/\ZW w (Q hb 1 Z)=T s1/\ZW w (Q hb 2 Z)=T md/\ZW w (Q hb 3 Z)=T or/\ZW w (Q hb 4 Z)=T st/\ZW w (Q hb 5 Z)=T (J I g)/\ZW w (Q hb 6 Z)=T (U sx)/\ZW w (Q hb 7 Z)=T f/\ZW w (Q hb 8 Z)=T (ZF b)/\∀j,ZX w (Q hb j Z)=ZA:=by unfold ShBox at h;refine⟨ah h,?_,?_,?_,?_,?_,?_,?_,?_,?_,λj=>?_⟩;all_goals simp[World.cell?,World.frozen?,h]
def ShBox.ad{s0 s1 st g:ZB}{i:Int}{b:Bool}(h:ShBox w hb s0 s1 md or st i sx g b)(f:w'.heap[hb]?=w.heap[hb]?):ShBox w' hb s0 s1 md or st i sx g b:=f.k h
structure SM where
 e:F_
 M:Int
 H:F_
 V:List Lk
 sv:ZB
 done:Bool
def smV (m:SM):List ZB:=[U m.e,J I m.M,U m.H,Y Z 0 0,m.sv,ZF m.done]
def eG (b:List Lk):List ZB:=b.flatMap λl=>[U l.e,ZF l.ask,ZF l.has]
def fI (L:List SM)(t:F_):Option Nat:=L.findIdx? λm=>m.e.toList == t.toList
structure fM (L:List SM)(q_:List F_)(jh:List zt):Prop where
 nod:L.Pairwise λm m'=>m.e≠m'.e
 len:B L=B jh+B q_
 got:∀x∈jh,∃m∈L,m.e=x.e/\m.done=ZH/\m.M=(dt x).M/\m.H=(dt x).H/\m.V=x.D
 mkg:∀t∈q_,∃m∈L,m.e=t/\m.done=ZA
 all:∀m∈L,(∃x∈jh,x.e=m.e)\/m.e∈q_
structure SI (w0:E)(hb:Nat)(s0 s1:ZB)(w:E)(q_:List F_)(jh:List zt)(L:List SM)(md or st:ZB):Prop where
 ak:Below (A (z w0)) w0 w
 hbB:A (z w0)<=hb
 ab:ShBox w hb s0 s1 md or st 0 ⟨#[]⟩ (Y Z 0 0) ZA
 X:ZY w (A (z w0)) 168 6 md (B L) (L.flatMap smV)
 ror:ZY w (A (z w0)) 9 1 or (B jh) (bO (jh.map (·.e)))
 rst:ZY w (A (z w0)) 9 1 st (B q_) (bO q_)
 apart:∀k,or.ownBlock=T k->st.ownBlock≠T k
 V:∀m∈L,m.done=ZH->ZY w (A (z w0)) 171 3 m.sv (B m.V) (eG m.V)
section
variable {w0 w w':E}{hb:Nat}{s0 s1 md or st:ZB}{q_:List F_}{jh:List zt}{L:List SM}
def SI.lt (h:SI w0 hb s0 s1 w q_ jh L md or st):A (z w0)<=A (z w):=h.ak.size
def SI.aa (h:SI w0 hb s0 s1 w q_ jh L md or st)(b:Below C w w')(f:A (z w)<=C):SI w0 hb s0 s1 w' q_ jh L md or st:=
 ⟨h.ak.k (b.P (nX h.lt f)),h.hbB,h.ab.ad (b.p _ (lj (ah h.ab) f)),J_ h.X b f,J_ h.ror b f,J_ h.rst b f,h.apart,λm g i=>J_ (h.V m g i) b f⟩
end
def eh:Option Nat->Int
 |some i=>(i:Int)
 |none=>-1
def ja (g:B_)(n:Nat)(t:F_):aF g n t=(atI g n t).isSome:=by unfold aF atI;rw[OJ,List.find?_isSome,TH]
def vV{g:B_}{t:F_}(h:aF g n t=ZA):atI g n t=Z:=by rw[ja] at h;exact Option.isNone_iff_eq_none.1 (by simpa using h)
def sZ{g:B_}{k:Nat}{t:F_}(b:k<n)(h1:((g k).toList == t.toList)=ZH)(h2:aF g k t=ZA):atI g n t=T k:=by
 unfold atI;rw[List.find?_range_eq_some];refine⟨h1,E4.2 b,λj f=>?_⟩;cases e:((g j).toList == t.toList) with
 |false=>rfl
 |true =>rw[eO f e] at h2;cases h2
def rP (b off n0 c0:Nat)(a1:O_)(n1 c1:Nat)(f:Nat->Source)(t:F_)(w:E)(hn:(n0:Int)<=1048576)(p:RowSource w b off n0 f):Calls Pg 33 #[ZJ #[Y (T (Q b off Z)) n0 c0,Y a1 n1 c1],U t] w λe w'=>e=ZI (J I (eh (atI (nm0 f) n0 t)))/\Below (A (z w)) w w':=by
 obtain⟨W,g⟩:∃W:E,ZV w (N #[Y (T (Q b off Z)) n0 c0,Y a1 n1 c1] 29)=W:=⟨_,rfl⟩
 obtain⟨m,-,-⟩:=nb1 g;have h:=ae g;clear g;have q:=ae (p.aa m ly);have k1:ZW W (Q (A (z w)) 0 Z)=T (Y (T (Q b off Z)) n0 c0):=by rw[<-h.i];simp
 clear p;obtain⟨R,hR⟩:∃R,R=eh (atI (nm0 f) n0 t):=⟨_,rfl⟩
 rw[<-hR];have o:=ae hR;clear hR;go_enter WV,VT;go_wp2;rw[h.i];clear h;go_loop [5] (λi=>∃k:Nat,k<=n0/\i=J I k/\Hid (aF (nm0 f) k t=ZA)) (λi=>n0 - (intOf i).toNat);case atStart=>exact⟨0,by omega,rfl,rfl⟩
 case round =>
  obtain⟨k,hk,rfl,n⟩:=hrel;by_cases j:k<n0
  ·obtain⟨d0,d1⟩:=q.2 k j;cases hb:((f k).e.toList == t.toList) with
   |true =>have l:=ae hb;go_wp2;go_ret;exact⟨by rw[o.i,sZ j l.i n.i];rfl,m⟩
   |false =>have l:=ae hb;go_wp2;exact⟨⟨k+1,by omega,by go_num,by show aF (nm0 f) (k+1) t=ZA;rw[gI,n.i];exact l⟩,by simp[intOf];omega⟩
  ·have e:k=n0:=by omega
   subst e;go_wp2;go_ret;exact⟨by rw[o.i,vV n.i];rfl,m⟩
def rQ (a0:O_)(c0:Nat)(a1:O_)(n1 c1:Nat)(t:F_)(w:E):Calls Pg 33 #[ZJ #[Y a0 0 c0,Y a1 n1 c1],U t] w λe w'=>e=ZI (J I (-1))/\Below (A (z w)) w w':=by
 have b:=ae ((BS w).alloc ly (N #[Y a0 0 c0,Y a1 n1 c1] 29));go_enter WV,VT;go_wp2;go_loop [5] (λi=>i=J I 0) (λ_=>0);case atStart=>rfl
 case round =>subst hrel;go_wp2;go_ret;exact⟨rfl,b⟩
def iP (a0:O_)(n0 c0:Nat)(a1:O_)(n1 c1:Nat)(f:Nat->Source)(t:F_)(w:E)(hn:(n0:Int)<=1048576)(g:Qx w a0 n0 f):Calls Pg 33 #[ZJ #[Y a0 n0 c0,Y a1 n1 c1],U t] w λe w'=>e=ZI (J I (eh (atI (nm0 f) n0 t)))/\Below (A (z w)) w w':=by
 rcases g with rfl|⟨b,off,rfl,h⟩
 {exact rQ a0 c0 a1 n1 c1 t w};{exact rP b off n0 c0 a1 n1 c1 f t w hn h}
def rR (a0:O_)(n0 c0 b off n1 c1:Nat)(f:Nat->Target)(t:F_)(w:E)(hn:(n1:Int)<=1048576)(p:RowTarget w b off n1 f):Calls Pg 34 #[ZJ #[Y a0 n0 c0,Y (T (Q b off Z)) n1 c1],U t] w λe w'=>e=ZI (J I (eh (atI (nm1 f) n1 t)))/\Below (A (z w)) w w':=by
 obtain⟨W,g⟩:∃W:E,ZV w (N #[Y a0 n0 c0,Y (T (Q b off Z)) n1 c1] 29)=W:=⟨_,rfl⟩
 obtain⟨m,-,-⟩:=nb1 g;have h:=ae g;clear g;have q:=ae (p.aa m ly);have k1:ZW W (Q (A (z w)) 1 Z)=T (Y (T (Q b off Z)) n1 c1):=by rw[<-h.i];simp
 clear p;obtain⟨R,hR⟩:∃R,R=eh (atI (nm1 f) n1 t):=⟨_,rfl⟩
 rw[<-hR];have o:=ae hR;clear hR;go_enter WU,VR;go_wp2;rw[h.i];clear h;go_loop [5] (λi=>∃k:Nat,k<=n1/\i=J I k/\Hid (aF (nm1 f) k t=ZA)) (λi=>n1 - (intOf i).toNat);case atStart=>exact⟨0,by omega,rfl,rfl⟩
 case round =>
  obtain⟨k,hk,rfl,n⟩:=hrel;by_cases j:k<n1
  ·obtain⟨d0,ka,kc,d1,_⟩:=q.2 k j;cases hb:((f k).e.toList == t.toList) with
   |true =>have l:=ae hb;go_wp2;go_ret;exact⟨by rw[o.i,sZ j l.i n.i];rfl,m⟩
   |false =>have l:=ae hb;go_wp2;exact⟨⟨k+1,by omega,by go_num,by show aF (nm1 f) (k+1) t=ZA;rw[gI,n.i];exact l⟩,by simp[intOf];omega⟩
  ·have e:k=n1:=by omega
   subst e;go_wp2;go_ret;exact⟨by rw[o.i,vV n.i];rfl,m⟩
def rS (a0:O_)(n0 c0:Nat)(a1:O_)(c1:Nat)(t:F_)(w:E):Calls Pg 34 #[ZJ #[Y a0 n0 c0,Y a1 0 c1],U t] w λe w'=>e=ZI (J I (-1))/\Below (A (z w)) w w':=by
 have b:=ae ((BS w).alloc ly (N #[Y a0 n0 c0,Y a1 0 c1] 29));go_enter WU,VR;go_wp2;go_loop [5] (λi=>i=J I 0) (λ_=>0);case atStart=>rfl
 case round =>subst hrel;go_wp2;go_ret;exact⟨rfl,b⟩
def iQ (a0:O_)(n0 c0:Nat)(a1:O_)(n1 c1:Nat)(f:Nat->Target)(t:F_)(w:E)(hn:(n1:Int)<=1048576)(g:Qq w a1 n1 f):Calls Pg 34 #[ZJ #[Y a0 n0 c0,Y a1 n1 c1],U t] w λe w'=>e=ZI (J I (eh (atI (nm1 f) n1 t)))/\Below (A (z w)) w w':=by
 rcases g with rfl|⟨b,off,rfl,h⟩
 {exact rS a0 n0 c0 a1 c1 t w};{exact rR a0 n0 c0 b off n1 c1 f t w hn h}
def oG (m:SM):(smV m).length=6:=rfl
def cJ{j_:Nat}{L:List SM}(h:ZY w b 168 6 (Y (T (Q g 0 Z)) (B L) j_) (B L) (L.flatMap smV)){i:Nat}{m:SM}(l:L[i]?=T m)(j:Nat)(n:j<6){u:ZB}(f:(smV m)[j]?=T u):ZW w (Q g (i*6+j) Z)=T u:=by have h1:=h.cells (g:=g) rfl (i*6+j) u (by rw[cT smV 6 oG L i j n m l];exact f);rw[addr_add,IT] at h1;exact h1
def vW{L:List SM}{k:Nat}{t:F_}{m:SM}(b:L[k]?=T m)(h1:(m.e.toList == t.toList)=ZH)(h2:∀(j:Nat) (m:SM),j<k->L[j]?=T m->(m.e.toList == t.toList)=ZA):fI L t=T k:=by have f:=(j5.1 b).1;have g:=(j5.1 b).2;unfold fI;rw[SH];refine⟨f,by rw[g];exact h1,λj h=>?_⟩;rw[TI];exact h2 j _ h (gq (by omega))
def yB{L:List SM}{t:F_}(h2:∀(j:Nat) (m:SM),j<B L->L[j]?=T m->(m.e.toList == t.toList)=ZA):fI L t=Z:=by unfold fI;rw[SJ];intro m f;obtain⟨j,b⟩:=PE f;exact h2 j m (j5.1 b).1 b
section
variable {w0:E}{hb:Nat}{s0 s1 md or st:ZB}{q_:List F_}{jh:List zt}{L:List SM}
def vX (w:E)(t:F_)(u:Nat)(c2:ZW w (Q hb 2 Z)=T md)(l:ZY w u 168 6 md (B L) (L.flatMap smV))(hL:B L<=100000):Calls Pg 99 #[.pointer (T (Q hb 0 Z)),U t] w λe w'=>e=ZI (J I (eh (fI L t)))/\w'=w:=by
 obtain⟨R,hR⟩:∃R,R=eh (fI L t):=⟨_,rfl⟩
 rw[<-hR];have Z8:=ae hR;have o:=ae l;obtain⟨a,c,rfl⟩:∃a c,md=Y a (B L) c:=by
  obtain⟨_,⟨rfl,e⟩|⟨g,j_,x,rfl,_⟩⟩:=l;{exact⟨Z,0,by rw[e]⟩};{exact⟨_,_,rfl⟩}
 obtain⟨n,hn⟩:∃n,n=B L:=⟨_,rfl⟩
 have r:=ae hn;rw[<-hn] at c2 hL;clear l hR hn;go_enter func99,ntmps99;go_wp2;go_loop [5] (λi=>∃k:Nat,k<=n/\i=J I k/\Hid (∀(j:Nat) (m:SM),j<k->L[j]?=T m->(m.e.toList == t.toList)=ZA)) (λi=>n - (intOf i).toNat);case atStart=>exact⟨0,by omega,rfl,λj m q=>absurd q (NF _)⟩
 case round =>
  obtain⟨k,hk,rfl,p⟩:=hrel;by_cases hlt:k<n
  ·obtain⟨m,f⟩:∃m,L[k]?=T m:=⟨_,gq (by have:=r.i;omega)⟩
   obtain⟨g,j_,x,e,-⟩:=o.2.resolve_left (λh=>by have:=r.i;omega);simp only[IN,TX] at e;obtain⟨rfl,rfl⟩:=e;have d0:ZW w (Q g (k*6) Z)=T (U m.e):=cJ o f 0 (by omega) rfl;have y:=ae f;have hI:(k:Int)<(n:Int):=by omega
   clear f;cases hb2:(m.e.toList == t.toList) with
   |true =>have s:=ae hb2;go_wp2;go_ret;exact⟨by rw[Z8.i,vW y.i s.i p.i];rfl,rfl⟩
   |false =>
    have s:=ae hb2;go_wp2;refine⟨⟨k+1,by omega,by go_num,λj ZZ q b=>?_⟩,by simp[intOf];omega⟩;by_cases e:j=k;{subst e;rw[y.i] at b;cases b;exact s};{exact p j ZZ (by omega) b}
  ·have e:k=n:=by omega
   subst e;go_wp2;go_ret;exact⟨by rw[Z8.i,yB (λj m q f=>p.i j m (by have:=r.i;omega) f)];rfl,rfl⟩
def pI (w:E)(t:F_)(h:SI w0 hb s0 s1 w q_ jh L md or st)(hL:B L<=100000):Calls Pg 99 #[.pointer (T (Q hb 0 Z)),U t] w λe w'=>e=ZI (J I (eh (fI L t)))/\w'=w:=by obtain⟨-,-,-,c2,-⟩:=h.ab.K;exact vX w t (A (z w0)) c2 h.X hL
end
structure pJ (w0:E)(S:x_)(a0:O_)(a1:O_):Prop where
 src:Qx w0 a0 S.n0 S.f0
 w:Qq w0 a1 S.n1 S.f1
 ok:SpcOk S
def jb (w0:E)(hb:Nat)(w':E)(r:jj)(b:ZB):Prop:=∃s0 s1 md or st,ShBox w' hb s0 s1 md or st r.M r.H b ZH/\ZY w' (A (z w0)) 9 1 b (B r.R) (bO r.R)
structure LExt (n:Nat)(L L':List SM):Prop where
 nam:∀(i:Nat) (m:SM),L[i]?=T m->∃m':SM,L'[i]?=T m'/\m'.e=m.e
 sn:∀m∈L',m.done=ZH->(∃m0∈L,m0.done=ZH/\m0.sv=m.sv)\/∀k,m.sv.ownBlock=T k->n<=k
def LExt.refl (n:Nat)(L:List SM):LExt n L L:=⟨λ_ m h=>⟨m,h,rfl⟩,λm b f=>.inl ⟨m,b,f,rfl⟩⟩
def LExt.k{L q b:List SM}(h:LExt n L q)(k:LExt p q b)(hn:n<=p):LExt n L b:=by
 refine⟨λi m g=>?_,λm g x=>?_⟩;{obtain⟨f,h1,j⟩:=h.nam i m g;obtain⟨s,h2,u⟩:=k.nam i f h1;exact⟨s,h2,u.k j⟩};{rcases k.sn m g x with⟨m0,t,r,e⟩|h1;{rcases h.sn m0 t r with⟨f,h1,o,j⟩|h1;{exact .inl ⟨f,h1,o,j.k e⟩};{exact .inr λk l=>h1 k (by rw[e];exact l)}};{exact .inr λk l=>nX hn (h1 k l)}}
def jx (c:List F_):jj:=⟨6,⟨#[]⟩,c⟩
def jy (d:F_):jj:=⟨7,d,[]⟩
def jl (r:jj)(b:ZB):ZB:=ZJ #[J I r.M,U r.H,b]
def mF (w0:E)(hb:Nat)(s0 s1:ZB)(q_:List F_)(L:List SM)(w:E)(e:Ending)(w':E):Out zt->Prop
 |.inl (made',x)=>∃b f g h,e=ZI (ZJ #[J I (dt x).M,U (dt x).H,Y Z 0 0])/\SI w0 hb s0 s1 w' q_ made' b f g h/\fM b q_ made'/\LExt (A (z w)) L b/\KS (A (z w0)) XN w w'
 |.inr (.inl c)=>∃a k,e=ZI (jl (jx c) (Y a (B c) k))/\jb w0 hb w' (jx c) (Y a (B c) k)/\KS (A (z w0)) XN w w'
 |.inr (.inr d)=>e=ZI (jl (jy d) (Y Z 0 0))/\jb w0 hb w' (jy d) (Y Z 0 0)/\KS (A (z w0)) XN w w'
def fm (S:x_)(q_:List F_)(jh:List zt)(k:Nat):Prop:=B jh+201*dU S q_ jh+k<=50000
def MT (S:x_)(q_:List F_):Prop:=∀t∈q_,(atI (nm1 S.f1) S.n1 t).isSome=ZH
def oe (w0:E)(S:x_)(hb:Nat)(s0 s1:ZB)(n:Nat):Prop:=∀q_ jh L md or st w nm,B q_+n=60->SI w0 hb s0 s1 w q_ jh L md or st->fM L q_ jh->PG S q_ jh->fm S q_ jh 1->MT S q_->aA nm=ZH ->
 Calls Pg 98 #[.pointer (T (Q hb 0 Z)),U nm] w λe w'=>mF w0 hb s0 s1 q_ L w e w' (aT S n q_ jh nm)
def lE{a:Nat}(h:(Pg.info? e).map (λi=>(i.zero,i.size,i.bytes))=T (T Z8,a,b)):∃i,Pg.info? e=T i/\i.zero=T Z8/\i.size=a/\i.bytes=b:=by
 cases hi:Pg.info? e with
 |none=>rw[hi] at h;cases h
 |some i =>rw[hi] at h;simp only[U7,ND,LK] at h;exact⟨i,rfl,h⟩
def pK:(Pg.info? 9).map (λi=>(i.zero,i.size,i.bytes))=T (T (U ⟨#[]⟩),1,16):=by kernel_rfl
def An:(Pg.info? 141).map (λi=>(i.zero,i.size,i.bytes))=T (T (ZJ #[ZF ZA,J I 0,U ⟨#[]⟩]),3,32):=by kernel_rfl
def FW:(Pg.info? 171).map (λi=>(i.zero,i.size,i.bytes))=T (T (ZJ #[U ⟨#[]⟩,ZF ZA,ZF ZA]),3,24):=by kernel_rfl
def FX:(Pg.info? 168).map (λi=>(i.zero,i.size,i.bytes))=T (T (ZJ #[U ⟨#[]⟩,J I 0,U ⟨#[]⟩,Y Z 0 0,Y Z 0 0,ZF ZA]),6,96):=by kernel_rfl
def mG (b:List aD):List ZB:=b.flatMap λr=>[ZF r.has,J I r.M,U r.H]
def FY (b:List aD)(r:aD):mG (b++[r])=mG b++[ZF r.has,J I r.M,U r.H]:=by simp[mG]
def CF (b:List Lk)(l:Lk):eG (b++[l])=eG b++[U l.e,ZF l.ask,ZF l.has]:=by simp[eG]
def Ih{c:Nat}{b:List aD}(h:ZY w l 141 3 (Y (T (Q g 0 Z)) (B b) c) (B b) (mG b)):RowReply w g 0 (B b) (yL b):=by
 obtain⟨_,n,cs,hc⟩:=af h g rfl;refine⟨n,λi hi=>?_⟩;have p:b[i]?=T (yL b i):=by simp[yL,gq hi]
 have f:∀j u,j<3->([Value.bool (yL b i).has,J I (yL b i).M,U (yL b i).H]:List ZB)[j]?=T u->ZW w (Q g (i*3+j) Z)=T u:=λj u o m=>by have h1:=h.cells (g:=g) rfl (i*3+j) u (by rw[mG,cT (λr:aD=>[ZF r.has,J I r.M,U r.H]) 3 (λ_=>rfl) b i j o _ p];exact m);rw[addr_add,IT] at h1;exact h1
 refine⟨?_,?_,?_⟩;{rw[IT];exact f 0 _ (by omega) rfl};{rw[IT];exact f 1 _ (by omega) rfl};{rw[IT];exact f 2 _ (by omega) rfl}
def oH (w:E)(e:ZK)(size:Nat):(ZV w (N #[] e)).ownsRow (A (z w)) e size (Y (T (Q (A (z w)) 0 Z)) 0 0) 0 []:=
 ⟨by simp,.inr ⟨A (z w),0,#[],rfl,p7 _,gM _ _,p7 _,DW _,by simp,by simp⟩⟩
def CH (i:SpcOk S)(f:tg<S.n1){b:List aD}(g:∀y∈b,cI y=ZH)(hl:B b<=200):oB (S.f1 tg).u (S.f1 tg).h (yL b) (B b)=bK S tg b:=by
 unfold oB;have j:bU (yL b) (B b)=ZH:=by
  have:∀k,bU (yL b) k=ZH:=λk=>by
   induction k with
   |zero=>rfl
   |succ k h=>rw[bU,h,GK g k];rfl
  exact this _
 rw[eI (by rw[i.u tg f];simp),eI (by omega),eI (by rw[j];simp)];rfl
def FZ (f:SpcOk S)(b:tg<S.n1):∀i,i<(S.f1 tg).h->((S.f1 tg).u i).s.size<=maxLen:=λi hi=>by
 have h1:=j7 (bJ (f.u tg b)).1 hi;simp only[cL,nD] at h1;obtain⟨i1,i2,i3,i4,i5⟩:=h1;have hmt2:bW ((S.f1 tg).u i).op<=2000:=by unfold bW;split<;>omega
 unfold maxLen;omega
section
variable {w0:E}{S:x_}{a0 a1:O_}{c0 c1 hb:Nat}{md or st:ZB}{q_:List F_}{jh:List zt}{L:List SM}
def pL (C:pJ w0 S a0 a1)(w:E)(t:F_)(g:Below (A (z w0)) w0 w)(o:hb<A (z w))(m:ZW w (Q hb 0 Z)=T (Y a0 S.n0 c0))(l:ZW w (Q hb 1 Z)=T (Y a1 S.n1 c1)):Calls Pg 169 #[.pointer (T (Q hb 0 Z)),U t] w λe w'=>e=ZI (ZF (fL S t))/\Below (A (z w)) w w':=by
 have x:=ae C;have q:=ae g;have hsm:=C.ok.bb;obtain⟨R,hR⟩:∃R,R=fL S t:=⟨_,rfl⟩
 rw[<-hR];have n:Hid (R=((atI (nm0 S.f0) S.n0 t).isSome || (atI (nm1 S.f1) S.n1 t).isSome)):=by show _=_;rw[hR];unfold fL;rw[ja,ja]
 clear C g hR;go_enter func169,ntmps169;go_wp2_with fail;refine(iP a0 S.n0 c0 a1 S.n1 c1 S.f0 t w (by omega) (x.src.aa q ly)).P ?_;rintro e u⟨rfl,b⟩;have y:=(b.O (p:=(Q hb 0 Z)) o).k m;have Z8:=(b.O (p:=(Q hb 1 Z)) o).k l;have hl1:hb<A (z u):=lj o b.size;have j:=ae b;clear b m l;cases h0:atI (nm0 S.f0) S.n0 t with
 |some i =>
  have h:=ae h0;clear h0;have s:(0:Int)<=(i:Int):=by omega
  simp only[eh];go_wp2;go_ret;exact⟨by rw[n.i,h.i];rfl,j⟩
 |none =>
  have h:=ae h0;clear h0;simp only[eh];go_wp2_with fail;refine(iQ a0 S.n0 c0 a1 S.n1 c1 S.f1 t u (by omega) (x.w.aa (q.k (j.P q.size)) ly)).P ?_;rintro e w2⟨rfl,b⟩;have r:=ae (j.k (b.P j.size));clear b y Z8;cases h1:atI (nm1 S.f1) S.n1 t with
  |some i =>
   have f:=ae h1;clear h1;have s:(0:Int)<=(i:Int):=by omega
   simp only[eh];go_wp2;go_ret;exact⟨by rw[n.i,h.i,f.i];simp,r⟩
  |none =>have f:=ae h1;clear h1;simp only[eh];go_wp2;go_ret;exact⟨by rw[n.i,h.i,f.i];rfl,r⟩
end
