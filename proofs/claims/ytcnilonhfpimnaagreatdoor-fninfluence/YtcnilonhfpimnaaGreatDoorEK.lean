import Derived.Test.YtcnilonhfpimnaaGreatDoorEJ
import Derived.Test.YtcnilonhfpimnaaGreatDoorFS
set_option linter.all false
set_option maxRecDepth 1000000
set_option maxHeartbeats 8000000
open Go renaming Addr.mk->T,Value.slice->Z,Value.string->U,Value.int->J,Value.bool->ZF,Value.agg->ZJ,Obj.cells->N,IntKind.i64->I,World->E,Value->ZB,TypeId->ZK,Ending.returned->ZI,World.heap->z,World.ownsRow->ZX,World.alloc->ZU,World.cell?->ZV,World.frozen?->ZW,Proofs.Tryz.prog->Pg
open Option renaming none->Y,some->Q
open Bool renaming false->ZA,true->ZH
open Array renaming size->A
open List renaming length->B
namespace Go.Proofs.YtcnilonhfpimnaaGreatDoor.Vp
open Tryz RowKit
variable {nm sx:F_}{b tg n g m Z8 C i hb:Nat}{w w':E}{t e:ZK}{X:Nat->Prop}{G:F_->Nat}{q_ a:List k_}{x:k_}{S:J_}{mm y_:List F_}{f ZZ v' md or:ZB}{j:Array ZB}
def pH (w:E):(zeroValue 225).run Pg w=.ok (ZJ #[J I 0,.pointer Y]) w:=by kernel_rfl
def kq (q_:List k_)(nm:F_):q_.find? (λe=>e.e.toList == nm.toList)=aS q_ nm:=rfl
def sX{e:k_}(h:aS q_ nm=Q e):dK G mm q_ nm.toList=Q (ZJ #[J I 0,.pointer (Q (T (G e.e) 0 Y))]):=by unfold dK;rw[kq,h]
def iO (h:aS q_ nm=Y):dK G mm q_ nm.toList=(atL mm nm).map λ(i:Nat)=>ZJ #[J I (i:Int),.pointer Y]:=by unfold dK;rw[kq,h];rfl
section
variable {w0:E}{S:J_}{mb mp:Nat}{s0 s1 mk md:ZB}{mm y_:List F_}{q_:List k_}{G:F_->Nat}{V:F_->ZB}
def FM (w:E)(nm:F_)(h:MI w0 S mb mp s0 s1 w mm y_ q_ G V mk md)(hn:nm.size<=60)(e:k_)(b:aS q_ nm=Q e):Calls Pg 116 #[.pointer (Q (T mb 0 Y)),U nm] w λr w'=>r=ZI (.pointer (Q (T (G e.e) 0 Y)))/\Below (A (z w)) w w':=by
 have g:=ae (show(dK G mm q_ nm.toList).getD (ZJ #[J I 0,.pointer Y])=ZJ #[J I 0,.pointer (Q (T (G e.e) 0 Y))] by rw[sX b];rfl);have l:=ae (show(dK G mm q_ nm.toList).isSome=ZH by rw[sX b];rfl);have j:=ae h;obtain⟨hl,-,-,c2,-,-,-⟩:=h.ab.y;have f:nm.size<=maxLen:=by unfold maxLen;omega
 have hz:=pH;have i:=ae ((BS w).alloc ly (N #[J I 0,.pointer (Q (T (G e.e) 0 Y))] 225));clear h b;go_enter func116,ntmps116
 go_wp2_with (first
  |(at_lookup;refine jk _ rfl _ _ 178 rfl 225 TW (hz _) mp _ _ rfl j.map nm rfl f _ g ZH l ?_)
  |fail)
 go_ret;exact⟨rfl,i⟩
def xD (w:E)(nm:F_)(h:MI w0 S mb mp s0 s1 w y_ y_ q_ G V mk md)(hn:nm.size<=60)(ZL:B y_<=60)(ZT:aS q_ nm=Y)(i:Nat)(hi:atL y_ nm=Q i):Calls Pg 116 #[.pointer (Q (T mb 0 Y)),U nm] w λr w'=>∃v,r=.panicked [{ v:=.iface 220 (ZJ #[v]),recovered:=ZA }]/\w'.ownsRow (A (z w)) 9 1 v (y_.drop i).length (bO (y_.drop i))/\Below (A (z w)) w w':=by
 have HV:=ae (show(dK G y_ q_ nm.toList).getD (ZJ #[J I 0,.pointer Y])=ZJ #[J I (i:Int),.pointer Y] by rw[iO ZT,hi];rfl);have HF:=ae (show(dK G y_ q_ nm.toList).isSome=ZH by rw[iO ZT,hi];rfl);have HM:=ae h;obtain⟨hl,-,-,c2,c3,-,-⟩:=h.ab.y;have ZO:i<B y_:=by unfold atL at hi;exact(List.findIdx?_eq_some_iff_findIdx_eq.1 hi).1
 obtain⟨g,j_,cur,rfl,hg1,C,O,hg4,P,R⟩:=h.rmk.2.resolve_left λh=>by omega
 have HC:=ae (h.rmk.cells (g:=g) rfl);have ZQ:nm.size<=maxLen:=by unfold maxLen;omega
 have hz:=pH;obtain⟨m,f⟩:∃W:E,ZU w (N #[J I (i:Int),.pointer Y] 225)=W:=⟨_,rfl⟩
 obtain⟨o,-,-⟩:=nb1 f;have b:=ae f;clear f;have L:g<A (z w):=ah C;obtain⟨n,s⟩:∃n,n=B y_:=⟨_,rfl⟩
 rw[<-s] at ZO ZL c3 O;have ZZ:=ae s;clear s;have t:=(o.O (p:=(T mb 3 Y)) hl).k c3;have ZS:ZV m (T (A (z w)) 0 Y)=Q (J I (i:Int)):=by rw[<-b.i];simp
 clear h ZT C P R hi;go_enter func116,ntmps116
 go_wp2_with (first
  |(at_lookup;refine jk _ rfl _ _ 178 rfl 225 TW (hz _) mp _ _ rfl HM.map nm rfl ZQ _ HV ZH HF ?_)
  |fail)
 clear c2 c3;have M:A (z w)<A (z m):=by rw[<-b.i];simp
 rw[b.i];clear b;have hI0:(0:Int)<=(i:Int):=by omega
 have hI1:(i:Int)<=(n:Int):=by omega
 have hI2:(n:Int)<=(j_:Int):=by omega
 have hcl:¬ j_=i:=by omega
 have Z8:mb<A (z m):=by have:=o.size;omega
 have ZY:A (z w)<A (z m):=M;have ZP:Hid (∀W,Below (A (z w)) w W->∀j,j<(y_.drop i).length->ZV W (T g (i+j) Y)=Q (U ((y_.drop i).getD j ByteArray.empty))):=λW ZM j hj=>by
  rw[NO] at hj
  have h1:=HC.i (i+j) (U ((y_.drop i).getD j ByteArray.empty)) (by
   rw[bO,L8,gq (by omega)]
   simp[CL,YJ,gq (show i+j<B y_ by omega)])
  exact(ZM.O (p:=(T g (i+j) Y)) L).k (by rw[addr_add,I5] at h1;exact h1)
 refine wp_region_held_drew (S:=λV=>ZV V (T mb 3 Y)=Q (Z (Q (T g 0 Y)) n j_)/\ZV V (T (A (z w)) 0 Y)=Q (J I (i:Int))) (by as_aux_lemma=>kernel_rfl) ⟨t,ZS⟩ λZN=>?_;have y:=ae ZN;clear ZN;iterate 7
  first|refine aN 0 (v:=?_) rfl rfl (by as_aux_lemma=>kernel_rfl) (λ_ _ _ h=>h) rfl ?_ y ?_|refine aN 4 (v:=?_) rfl rfl (by as_aux_lemma=>kernel_rfl) (λ_ _ _ h=>h) rfl ?_ y ?_
  rotate_left
  ·(rintro wz⟨s0,s1⟩;go_simp)
   (try with_reducible rfl)
  (try simp only[Act.put,z_])
 refine aL (i:=7) rfl (by as_aux_lemma=>kernel_rfl) λK H=>?_;go_simp;go_at_call 150;refine(Tryz.slices_Clone_string g i (n - i) (j_ - i) (y_.drop i) _ (by rw[NO,<-ZZ.i];exact p7 _) (by omega) (ZP _ o.drew)).P ?_;rintro e ZR⟨v2,rfl,l,D,q⟩;have O2:=ae l;obtain⟨g2,cap2,cur2,rfl,q1,X⟩:=l.2.resolve_left (λh=>D h.1);have x:Hid (Below (A (z m)) m ZR):=⟨q.os,q.tape,q.output,q.size,q.p⟩
 clear l q q1 X D;refine H _ _ ⟨(x.O (p:=(T mb 3 Y)) Z8).k t,(x.O (p:=(T (A (z w)) 0 Y)) ZY).k ZS⟩ ?_;clear H K y;have y:Hid (ZV ZR (T mb 3 Y)=Q (Z (Q (T g 0 Y)) n j_)/\ZV ZR (T (A (z w)) 0 Y)=Q (J I (i:Int))):=⟨(x.O (p:=(T mb 3 Y)) Z8).k t,(x.O (p:=(T (A (z w)) 0 Y)) ZY).k ZS⟩
 (try simp only[Act.put,z_])
 iterate 2
  refine aN 8 (v:=?_) rfl rfl (by as_aux_lemma=>kernel_rfl) (λ_ _ _ h=>h) rfl ?_ y ?_;rotate_left
  ·(rintro wz⟨s0,s1⟩;go_simp)
   (try with_reducible rfl)
  (try simp only[Act.put,z_])
 refine aL (i:=10) rfl (by as_aux_lemma=>kernel_rfl) λK H=>?_;go_simp;refine⟨rfl,_,rfl,?_,?_⟩
 ·have h1:=aE (base':=A (z w)) O2 o.size;have e1:(y_.drop i).length=n - i:=by rw[NO,<-ZZ.i]
  rw[e1];rw[NV (by omega)] at h1;exact h1
 {exact o.k (x.P o.size)}
end
def mE {b:Type}(f:F_->b)(nm:F_)(v:b):F_->b:=λt=>if t.toList=nm.toList then v else f t
def ft{b:Type}(f:F_->b)(nm:F_)(v:b):mE f nm v nm=v:=eT rfl
def jw{b:Type}(f:F_->b){t:F_}(v:b)(h:t≠nm):mE f nm v t=f t:=eI λe=>h (fy e)
def Am (b:aS q_ nm=Y)(h1:atL y_ nm=Y)(s:List UInt8):(if s=nm.toList then Q (ZJ #[J I (B y_:Int),.pointer Y]) else dK G y_ q_ s)=dK G (y_++[nm]) q_ s:=by
 unfold dK;by_cases e:s=nm.toList;{subst e;rw[eT rfl,kq,b,UQ,show List.findIdx? (λx:F_=>x.toList == nm.toList) y_=Y from h1];simp[VE]}
 ·rw[eI e,UQ];have hn:(nm.toList == s)=ZA:=by simpa using λh=>e h.c
  cases q_.find? (λe=>e.e.toList == s) with
  |some x=>rfl
  |none=>simp[VE,hn]
def FO{b:F_->Nat}(l:aS q_ nm=Y)(f:x.e=nm)(j:∀y∈q_,b y.e=G y.e)(i:b nm=g)(m:mm=y_\/mm=y_++[nm])(s:List UInt8):(if s=nm.toList then Q (ZJ #[J I 0,.pointer (Q (T g 0 Y))]) else dK G mm q_ s)=dK b y_ (q_++[x]) s:=by
 unfold dK;rw[List.find?_append];by_cases e:s=nm.toList;{subst e;rw[eT rfl,kq,l];simp[f,i]}
 ·rw[eI e];have hn:(nm.toList == s)=ZA:=by simpa using λh=>e h.c
  cases hf:q_.find? (λe=>e.e.toList == s) with
  |some y =>simp only[Option.some_or];rw[j y (UY hf)]
  |none =>
   have h2:List.find? (λe:k_=>e.e.toList == s) [x]=Y:=by simp[f,hn]
   rw[h2];rcases m with rfl|rfl;{rfl};{simp[UQ,VE,hn]}
section
variable {w0 w:E}{S:J_}{mb mp:Nat}{s0 s1 mk md:ZB}{mm y_:List F_}{q_:List k_}{G:F_->Nat}{V:F_->ZB}
def EntAt.congr{f:F_->Nat}{v:ZB}(h:EntAt w0 S G w b v x)(i:∀l∈x.D,l.ask=ZH->f l.e=G l.e):EntAt w0 S f w b v x:=by obtain⟨h1,h2,g⟩:=h;refine⟨h1,h2,?_⟩;rw[oX i];exact g
def MIg.added{yh:Nat}{v:ZB}(h:MIg w0 S mb mp s0 s1 w yh (λs=>if s=nm.toList then Q (ZJ #[J I 0,.pointer (Q (T m 0 Y))]) else dK G mm q_ s) (B y_) (bO y_) (B q_+1) (jW G q_++[.pointer (Q (T m 0 Y))]) q_ G V mk md)(Z8:PG S y_ q_)(t:aS q_ nm=Y)(p:x.e=nm)
  (D:mm=y_\/mm=y_++[nm]) (C:yh<=2*(B q_+1)+B y_) (ZY:EntAt w0 S G w m v x) (u:∀y∈q_,G y.e≠m) (g:∀l∈x.D,l.ask=ZH->∃y∈q_,y.e=l.e) :
  MI w0 S mb mp s0 s1 w y_ y_ (q_++[x]) (mE G nm m) (mE V nm v) mk md:=by
 have q:=dI t;have n:∀y∈q_,mE G nm m y.e=G y.e:=λy f=>jw _ _ (q y f);have ZT:∀y∈q_,mE V nm v y.e=V y.e:=λy f=>jw _ _ (q y f);have o:(q_++[x]).length=B q_+1:=by simp
 refine⟨h.ak,h.mbB,h.mpB,h.ab,h.rmk,?_,?_,λy f=>?_,?_⟩;{have e:jW (mE G nm m) (q_++[x])=jW G q_++[.pointer (Q (T m 0 Y))]:=(by simp only[jW,NE,T7,VN,p,ft];rw[XS λy f=>by rw[n y f]]);rw[e,o];exact h.X};{rw[o];exact(h.map.P C).congr λs=>FO t p n (ft _ _ _) D s};{rcases p8.1 f with f|f;{rw[n y f,ZT y f];refine(h.W y f).congr λl o g=>?_;obtain⟨i,hi⟩:=PE f;obtain⟨j,ZZ,_,hz,hn⟩:=Z8.ord i y hi l o g;rw[<-hn];exact n ZZ (J1 hz)};{rw[j4.1 f,p,ft,ft];refine ZY.congr λl o r=>?_;obtain⟨ZZ,hz,hn⟩:=g l o r;rw[<-hn];exact n ZZ hz}};{rw[PD];refine⟨?_,VK _ _,λa g b hb=>?_⟩;{exact h.dist.imp_of_mem λ{a b} g hb h=>by rw[n a g,n b hb];exact h};{rw[j4.1 hb,p,ft,n a g];exact u a g}}
structure Ext (n:Nat)(q_ made':List k_)(G G':F_->Nat)(V V':F_->ZB):Prop where
 pre:∃more,made'=q_++more
 same:∀x∈q_,G' x.e=G x.e/\V' x.e=V x.e
 new:∀x∈made',x∈q_\/(n<=G' x.e/\∀k,(V' x.e).ownBlock=Q k->n<=k)
def Ext.refl (n:Nat)(q_:List k_)(G:F_->Nat)(V:F_->ZB):Ext n q_ q_ G G V V:=⟨⟨[],by simp⟩,λ_ _=>⟨rfl,rfl⟩,λ_ h=>.inl h⟩
def Ext.mem{q_ b:List k_}{G i:F_->Nat}{V g:F_->ZB}(h:Ext n q_ b G i V g):∀x∈q_,x∈b:=by obtain⟨more,e⟩:=h.pre;intro x f;rw[e];exact NY _ f
def Ext.k{b c:List k_}{r s u:F_->Nat}{t l o:F_->ZB}(h:Ext n a b r s t l)(k:Ext m b c s u l o)(g:n<=m):Ext n a c r u t o:=by
 obtain⟨p,ZZ⟩:=h.pre;obtain⟨q,C⟩:=k.pre;refine⟨⟨p++q,by rw[C,ZZ,NQ]⟩,λx f=>?_,λx f=>?_⟩;{obtain⟨Z8,D⟩:=h.same x f;obtain⟨j,i⟩:=k.same x (h.mem x f);exact⟨j.k Z8,i.k D⟩}
 ·rcases k.new x f with hb|⟨h1,h2⟩
  ·obtain⟨j,i⟩:=k.same x hb;rcases h.new x hb with ZY|⟨h1,h2⟩
   {exact .inl ZY};{exact .inr ⟨by rw[j];exact h1,by rw[i];exact h2⟩}
  {exact .inr ⟨nX g h1,λk y=>nX g (h2 k y)⟩}
def Ext.P{b:List k_}{l g:F_->Nat}{i j:F_->ZB}(h:Ext n a b l g i j)(f:m<=n):Ext m a b l g i j:=
 ⟨h.pre,h.same,λx p=>(h.new x p).imp id λ⟨h1,h2⟩=>⟨nX f h1,λk o=>nX f (h2 k o)⟩⟩
def Ie{q_:List k_}{f:Nat}{v:ZB}(g:aS q_ nm=Y)(h:x.e=nm)(h1:n<=f)(h2:∀k,v.ownBlock=Q k->n<=k):Ext n q_ (q_++[x]) G (mE G nm f) V (mE V nm v):=by
 refine⟨⟨_,rfl⟩,λy b=>⟨jw _ _ (dI g y b),jw _ _ (dI g y b)⟩,λy b=>?_⟩;rcases p8.1 b with b|b;{exact .inl b};{rw[j4.1 b,h,ft,ft];exact .inr ⟨h1,h2⟩}
def EU.step{t:Nat}{m:List Lk}{v:ZB}{f:List k_}{n:F_->Nat}{s:F_->ZB}(h:EU w0 S w t nm tg G m v q_ V)(q:KX (A (z w0)) XN w w')(i:Ext (A (z w)) q_ f G n V s):EU w0 S w' t nm tg n m v f s:=by
 obtain⟨⟨a,j_,hb,j⟩,r,p,y,u,has⟩:=h;have ZY:∀l∈m,l.ask=ZH->n l.e=G l.e:=λl o j=>by obtain⟨x,b,e⟩:=has l o j;rw[<-e];exact(i.same x b).1
 have hebl:=ah hb;refine⟨⟨a,j_,(q.ad _ _ _ _ hb (by decide) (by decide) (by decide) λh=>h).k hb,j⟩,r,?_,λx b=>?_,λx b k g=>?_,λl o j=>?_⟩;{rw[oX ZY];refine b9 p λk g=>?_;obtain⟨_,_,cs,ZZ⟩:=af p k g;exact q.ad k _ _ _ ZZ (by decide) (by decide) (by decide) λh=>h}
 ·rcases i.new x b with b|⟨h1,_⟩
  {rw[(i.same x b).1];exact y x b};{omega}
 ·rcases i.new x b with b|⟨_,h1⟩
  {rw[(i.same x b).2];exact u x b k g};{intro e;have:=h1 k e;have:=(af p k g).2.1;omega}
 {obtain⟨x,b,e⟩:=has l o j;exact⟨x,i.mem x b,e⟩}
end
structure Ctx (w0:E)(S:J_)(a0:O_)(c0:Nat)(a1:O_)(c1:Nat):Prop where
 src:Qy w0 a0 S.n0 S.f0
 w:Qx w0 a1 S.n1 S.f1
 ok:SpcOk S
 tab:Tab2 w0
 pow:Pow w0
 sz:∀i,i<S.n0->(S.f0 i).H.size<=maxLen
def vT (w0:E)(S:J_)(mb mp:Nat)(s0 s1:ZB)(y_:List F_)(q_:List k_)(G:F_->Nat)(V:F_->ZB)(w:E)(e:Ending)(w':E):Out k_->Prop
 |.inl (made',x)=>∃b f g h,e=ZI (.pointer (Q (T (b x.e) 0 Y)))/\MI w0 S mb mp s0 s1 w' y_ y_ made' b f g h/\Ext (A (z w)) q_ made' G b V f/\KX (A (z w0)) XN w w'
 |.inr (.inl c)=>∃v,e=.panicked [{ v:=.iface 220 (ZJ #[v]),recovered:=ZA }]/\ZX w' (A (z w0)) 9 1 v (B c) (bO c)/\Below (A (z w0)) w w'
 |.inr (.inr d)=>e=.panicked [{ v:=.iface 222 (ZJ #[U d]),recovered:=ZA }]/\Below (A (z w0)) w w'
def eX (S:J_)(y_:List F_)(q_:List k_)(k:Nat):Prop:=B q_+201*dU S y_ q_+k<=50000
def jX (w0:E)(S:J_)(mb mp:Nat)(s0 s1:ZB)(n:Nat):Prop:=∀y_ q_ G V mk md w nm,B y_+n=60->MI w0 S mb mp s0 s1 w y_ y_ q_ G V mk md->PG S y_ q_->eX S y_ q_ 1->aA nm=ZH ->
 Calls Pg 116 #[.pointer (Q (T mb 0 Y)),U nm] w λe w'=>vT w0 S mb mp s0 s1 y_ q_ G V w e w' (aT S n y_ q_ nm)
def qP{a:Nat}(h:(Pg.info? e).map (λi=>(i.zero,i.size,i.bytes))=Q (Q ZZ,a,b)):∃i,Pg.info? e=Q i/\i.zero=Q ZZ/\i.size=a/\i.bytes=b:=by
 cases hi:Pg.info? e with
 |none=>rw[hi] at h;cases h
 |some i =>rw[hi] at h;simp only[U7,ND,LK] at h;exact⟨i,rfl,h⟩
def yx:(Pg.info? 184).map (λi=>(i.zero,i.size,i.bytes))=Q (Q (ZJ #[U ⟨#[]⟩,ZF ZA,ZF ZA,J I 0,.pointer Y]),5,40):=by kernel_rfl
def FP:(Pg.info? 9).map (λi=>(i.zero,i.size,i.bytes))=Q (Q (U ⟨#[]⟩),1,16):=by kernel_rfl
def FQ:(Pg.info? 131).map (λi=>(i.zero,i.size,i.bytes))=Q (Q (.pointer Y),1,8):=by kernel_rfl
abbrev vU (t:ZK):Prop:=t≠9/\t≠131/\t≠180/\t≠134/\t≠184
section
variable {w0 w:E}{S:J_}{mb mp:Nat}{s0 s1 mk md:ZB}{yh nk np:Nat}{F:List UInt8->Option ZB}{ks ps:List ZB}{q_:List k_}{G:F_->Nat}{V:F_->ZB}
def MIg.ag{l:Array ZB}{fz:Nat × Nat}(h:MIg w0 S mb mp s0 s1 w yh F nk ks np ps q_ G V mk md)(hb:w.heap[b]?=Q (N l t fz))(C:vU t)(D:A (z w0)<=b)(j:Nat)(u:ZB):MIg w0 S mb mp s0 s1 (w.setCell (T b j Y) u) yh F nk ks np ps q_ G V mk md:=by
 have ZY:KX (A (z w0)) (λi=>i=b) w (w.setCell (T b j Y) u):=KX.setCell (X:=λi=>i=b) w D (Or.inl rfl) u;obtain⟨r,ZZ,Z8,y,s⟩:=C;refine h.kx ZY (λi o hi n=>qh _ _ _ _ λe=>n e) (λe=>?_) (λe=>?_) (λk f e=>?_) (λk f e=>?_) λx p=>⟨λe=>?_,λk f e=>?_⟩
 {subst e;exact Z8 (ar hb h.ab)};{obtain⟨es,c,q⟩:=h.map.isMap;rw[e,hb] at q;cases q};{subst e;obtain⟨_,_,l,g⟩:=af h.rmk _ f;exact r (ar hb g)};{subst e;obtain⟨_,_,l,g⟩:=af h.X _ f;exact ZZ (ar hb g)};{obtain⟨act,m,_⟩:=(h.W x p).ad;rw[e] at m;exact y (ar hb m)};{subst e;obtain⟨_,_,l,g⟩:=af (h.W x p).row _ f;exact s (ar hb g)}
def EU.ag{g:List Lk}{v:ZB}{i:Array ZB}{fz:Nat × Nat}(h:EU w0 S w m nm tg G g v q_ V)(hb:w.heap[b]?=Q (N i t fz))(y:vU t)(j:Nat)(u:ZB):EU w0 S (w.setCell (T b j Y) u) m nm tg G g v q_ V:=by
 obtain⟨⟨a,j_,f,r⟩,l,o,p,n,has⟩:=h;obtain⟨t1,t2,t3,x,q⟩:=y;refine⟨⟨a,j_,(qh _ _ _ _ λe=>?_).k f,r⟩,l,aB o (λe=>?_) _ _,p,n,has⟩;{simp at e;subst e;exact x (ar hb f)};{obtain⟨_,_,i,s⟩:=af o _ e;exact q (ar hb s)}
def EU.aa{f:List Lk}{v:ZB}(h:EU w0 S w i nm tg G f v q_ V)(hb:Below C w w')(j:A (z w)<=C):EU w0 S w' i nm tg G f v q_ V:=by obtain⟨⟨a,j_,b,n⟩,g,o,m,l,has⟩:=h;exact⟨⟨a,j_,(hb.p _ (lj (ah b) j)).k b,n⟩,g,K_ o hb j,m,l,has⟩
def EntBlk.y{text:F_}{kind code zd:Int}{act:ZB}(h:EntBlk w b nm kind code text act f zd):b<A (z w)/\ZV w (T b 0 Y)=Q (U nm)/\ZV w (T b 1 Y)=Q (J I kind)/\ZV w (T b 2 Y)=Q (J I code)/\ZV w (T b 3 Y)=Q (U text)/\ZV w (T b 4 Y)=Q act/\ZV w (T b 5 Y)=Q (Z Y 0 0)/\ZV w (T b 6 Y)=Q f/\ZV w (T b 7 Y)=Q (J I zd)/\∀j,ZW w (T b j Y)=ZA:=by unfold EntBlk at h;refine⟨ah h,?_,?_,?_,?_,?_,?_,?_,?_,λj=>?_⟩;all_goals simp[World.cell?,World.frozen?,h]
def EU.tied{m:E}{j:List Lk}{v:ZB}{l:Lk}(h:EU w0 S w b nm tg G j v q_ V)(ZS:l.ask=ZH->∃x∈q_,x.e=l.e)(ZY:w.grownBy m v.ownBlock)(r:ZX m (A (z w0)) 184 5 v' (B j+1) (fE G j++mD G l))(ZT:v'.ownBlock=v.ownBlock\/v'.ownBlock=Q (A (z w)))(Z8:∀x∈q_,∀k,(V x.e).ownBlock=Q k->k<A (z w)):EU w0 S (m.setCell (T b 6 Y) v') b nm tg G (j++[l]) v' q_ V:=by
 obtain⟨⟨a,j_,g,y⟩,t,u,D,q,has⟩:=h;have s:Q b≠v.ownBlock:=λe=>by obtain⟨_,_,H,n⟩:=af u b e.c;exact absurd (ar g n) (by decide)
 have f:m.heap[b]?=_:=(ZY.p b (ah g) s).k g;refine⟨⟨a,j_,aw f v',y⟩,t,?_,D,λx p k o=>?_,λZZ hz i=>?_⟩;{rw[CB,cM,AI];refine aB r (λe=>?_) _ _;obtain⟨_,_,H,n⟩:=af r b e;exact absurd (ar f n) (by decide)}
 ·rcases ZT with e|e;{exact q x p k (by rw[<-e];exact o)}
  ·rw[e] at o;cases o
   intro C;have:=Z8 x p _ C;omega
 {rcases p8.1 hz with hz|hz;{exact has ZZ hz i};{rw[j4.1 hz] at i ⊢;exact ZS i}}
def MIg.tied{p:E}{ZT:List Lk}{v:ZB}(h:MIg w0 S mb mp s0 s1 w yh F nk ks np ps q_ G V mk md)(H:EU w0 S w n nm tg G ZT v q_ V)(y:w.grownBy p v.ownBlock):MIg w0 S mb mp s0 s1 (p.setCell (T n 6 Y) v') yh F nk ks np ps q_ G V mk md/\KX (A (z w0)) (λi=>i=n\/v.ownBlock=Q i) w (p.setCell (T n 6 Y) v'):=by
 obtain⟨⟨a,j_,b,ha⟩,D,m,ZR,ZY,has⟩:=H;have K:KX (A (z w0)) (λi=>i=n\/v.ownBlock=Q i) w p:=KX.of_grown y h.lt λj Z8=>⟨(af m j Z8).1,.inl (.inr Z8)⟩
 have ZS:KX (A (z w0)) (λi=>i=n\/v.ownBlock=Q i) p (p.setCell (T n 6 Y) v'):=KX.setCell p D (.inl (.inl rfl)) v';have C:=K.k ZS λ_ _ h=>h;refine⟨h.kx C (λi o hi s=>?_) (λe=>?_) (λe=>?_) (λk l e=>?_) (λk l e=>?_) (λx r=>⟨λe=>?_,λk l e=>?_⟩),C⟩;{exact(qh _ _ _ _ λe=>s (.inl e)).k (y.p i (ah hi) λe=>s (.inr e.c))};{rcases e with e|e;{rw[<-e] at b;exact absurd (ar b h.ab) (by decide)};{obtain⟨_,_,u,g⟩:=af m _ e;exact absurd (ar g h.ab) (by decide)}};{obtain⟨es,c,ZZ⟩:=h.map.isMap;rcases e with e|e;{unfold EntBlk at b;rw[<-e,ZZ] at b;cases b};{obtain⟨_,_,u,g⟩:=af m _ e;rw[ZZ] at g;cases g}};{obtain⟨_,_,u,g⟩:=af h.rmk _ l;rcases e with e|e;{rw[<-e] at b;exact absurd (ar b g) (by decide)};{obtain⟨_,_,q,f⟩:=af m _ e;exact absurd (ar g f) (by decide)}};{obtain⟨_,_,u,g⟩:=af h.X _ l;rcases e with e|e;{rw[<-e] at b;exact absurd (ar b g) (by decide)};{obtain⟨_,_,q,f⟩:=af m _ e;exact absurd (ar g f) (by decide)}};{rcases e with e|e;{exact ZR x r e};{obtain⟨act,t,_⟩:=(h.W x r).ad;obtain⟨_,_,q,f⟩:=af m _ e;exact absurd (ar t f) (by decide)}};{rcases e with e|e;{obtain⟨_,_,q,f⟩:=af (h.W x r).row _ l;rw[<-e] at b;exact absurd (ar b f) (by decide)};{exact ZY x r k e l}}
def MIg.vlt (h:MIg w0 S mb mp s0 s1 w yh F nk ks np ps q_ G V mk md):∀x∈q_,∀k,(V x.e).ownBlock=Q k->k<A (z w):=λx b k f=>(af (h.W x b).row k f).2.1
end
open Ca
def bM{size:Nat}{v:ZB}{f:List ZB}(h:ZX w b e size v n f):∃a j_,v=Z a n j_:=by
 obtain⟨_,⟨rfl,rfl⟩|⟨g,j_,cur,rfl,_⟩⟩:=h;{exact⟨Y,0,rfl⟩};{exact⟨_,_,rfl⟩}
def yy (w:E)(g f b i l:ZB)(t:ZK):∀j u,[g,f,b,i,l][j]?=Q u->(ZU w (N #[g,f,b,i,l] t)).cell? (((T (A (z w)) 0 Y):Addr).add j)=Q u:=by
 intro j u h;rw[addr_add];have hj:j<5:=by
  rcases OT j 5 with m|m;{exact m};{rw[NU (by simp;omega)] at h;cases h}
 rcases(show j=0\/j=1\/j=2\/j=3\/j=4 by omega) with rfl|rfl|rfl|rfl|rfl;all_goals
  simp at h;subst h;simp
section
variable {w0:E}{S:J_}{a0 a1:O_}{c0 c1 mb mp:Nat}{mk md:ZB}{y_:List F_}{q_:List k_}{G:F_->Nat}{V:F_->ZB}
def RepSt (w0:E)(S:J_)(mb mp:Nat)(s0 s1:ZB)(w w':E)(y_:List F_)(q_:List k_)(G:F_->Nat)(V:F_->ZB)(mk md:ZB)(f tg:Nat)(nm:F_)(g:List Lk)(v b:ZB):Prop:=
 MI w0 S mb mp s0 s1 w' y_ y_ q_ G V mk md/\EU w0 S w' f nm tg G g b q_ V/\KX (A (z w0)) (λi=>i=f\/v.ownBlock=Q i) w w'/\∀k,b.ownBlock=Q k->v.ownBlock=Q k\/(A (z w))<=k
def RepSt.set{W:E}{s0 s1:ZB}{rb:Nat}{f:List Lk}{v l:ZB}{g:Array ZB}(h:RepSt w0 S mb mp s0 s1 w W y_ q_ G V mk md m tg nm f v l)(hb:W.heap[rb]?=Q (N g t (0,0)))(n:vU t)(o:A (z w0)<=A (z w))(b:A (z w)<=rb)(j:Nat)(u:ZB):RepSt w0 S mb mp s0 s1 w (W.setCell (T rb j Y) u) y_ q_ G V mk md m tg nm f v l/\(W.setCell (T rb j Y) u).heap[rb]?=Q (N (g.setIfInBounds j u) t (0,0)):=
 ⟨⟨h.1.ag hb n (nX o b) j u,h.2.1.ag hb n j u,h.2.2.1.k (KX.setCell (X:=λi=>i=rb) W (nX o b) (Or.inl rfl) u) (λi hi e=>by have e2:i=rb:=e;omega),h.2.2.2⟩,aw hb u⟩
def dL{i g:ZB}(h:w.heap[b]?=Q (N #[i,g,f] t (0,0))):b<A (z w)/\ZV w (T b 0 Y)=Q i/\ZV w (T b 1 Y)=Q g/\ZV w (T b 2 Y)=Q f/\∀j,ZW w (T b j Y)=ZA:=by refine⟨ah h,?_,?_,?_,λj=>?_⟩;all_goals simp[World.cell?,World.frozen?,h]
def JD (w W:E)(c0 c1 c2 c3 c4 c5:ZB):Prop:=Hid (Below (A (z w)) w W)/\ZV W (T (A (z w)) 3 Y)=Q c3/\ZV W (T (A (z w)) 4 Y)=Q c4/\(A (z W))=A (z w)+2/\Hid (W.heap[A (z w)+1]?=Q (N #[ZF ZA,J I 0,U ⟨#[]⟩] 119 (0,0)))/\Hid (W.heap[A (z w)]?=Q (N #[c0,c1,c2,c3,c4,c5] 116 (0,0)))
def yz (w:E)(c0 c1 c2 c3 c4 c5:ZB):JD w (ZU (ZU w (N #[c0,c1,c2,c3,c4,c5] 116)) (N #[ZF ZA,J I 0,U ⟨#[]⟩] 119)) c0 c1 c2 c3 c4 c5:=by refine⟨((BS w).alloc ly _).alloc (by simp) _,by simp[go_sem],by simp[go_sem],by simp,?_,(((a8 (A (z w)+1) _).alloc (by simp) _).p (A (z w)) (by omega)).k (gM w _)⟩;have h2:=gM (ZU w (N #[c0,c1,c2,c3,c4,c5] 116)) (N #[ZF ZA,J I 0,U ⟨#[]⟩] 119);rw[show(A (z (ZU w (N #[c0,c1,c2,c3,c4,c5] 116))))=A (z w)+1 by simp] at h2;exact h2
def yA (w0:E)(S:J_)(mb mp:Nat)(s0 s1:ZB)(y_:List F_)(q_:List k_)(G:F_->Nat)(V:F_->ZB)(w:E)(l tg:Nat)(nm name:F_)(i:List Lk)(v:ZB)(e:Ending)(w':E):Out k_->Prop
 |.inl (made',x)=>e=ZI (ZJ #[ZF (decide (¬ x.L=2)),J I x.M,U x.H])/\∃h f b g j,RepSt w0 S mb mp s0 s1 w w' y_ made' h f b g l tg nm (i++[⟨name,ZH,ZA⟩]) v j/\Ext (A (z w)) q_ made' G h V f
 |.inr (.inl c)=>∃v,e=.panicked [{ v:=.iface 220 (ZJ #[v]),recovered:=ZA }]/\ZX w' (A (z w0)) 9 1 v (B c) (bO c)/\Below (A (z w0)) w w'
 |.inr (.inr d)=>e=.panicked [{ v:=.iface 222 (ZJ #[U d]),recovered:=ZA }]/\Below (A (z w0)) w w'
def sY:(∀(C:Ctx w0 S a0 c0 a1 c1) (w:E) (f tg:Nat) (nm:F_) (b:List Lk) (v:ZB) (ZP:Turn) (h:MI w0 S mb mp (Z a0 S.n0 c0) (Z a1 S.n1 c1) w y_ y_ q_ G V mk md) (ZZ:EU w0 S w f nm tg G b v q_ V) (At:B b<=200) (y:ZP.ask=ZA),Calls Pg 197 #[.pointer (Q (T mb 0 Y)),.pointer (Q (T f 0 Y)),ZP.v] w λe w'=>e=ZI (ZJ #[ZF (fL S ZP.e),J I 0,U ⟨#[]⟩])/\∃v',RepSt w0 S mb mp (Z a0 S.n0 c0) (Z a1 S.n1 c1) w w' y_ q_ G V mk md f tg nm (b++[⟨ZP.e,ZA,fL S ZP.e⟩]) v v')/\(∀(C:Ctx w0 S a0 c0 a1 c1) (n:Nat) (HL:jX w0 S mb mp (Z a0 S.n0 c0) (Z a1 S.n1 c1) n) (w:E) (f tg:Nat) (nm:F_) (b:List Lk) (v:ZB) (ZP:Turn) (th:B y_+n=60) (h:MI w0 S mb mp (Z a0 S.n0 c0) (Z a1 S.n1 c1) w y_ y_ q_ G V mk md) (hp:PG S y_ q_) (la:eX S y_ q_ 1) (ZZ:EU w0 S w f nm tg G b v q_ V) (At:B b<=200) (y:ZP.ask=ZH) (hn:aA ZP.e=ZH),Calls Pg 197 #[.pointer (Q (T mb 0 Y)),.pointer (Q (T f 0 Y)),ZP.v] w λe w'=>yA w0 S mb mp (Z a0 S.n0 c0) (Z a1 S.n1 c1) y_ q_ G V w f tg nm ZP.e b v e w' (aT S n y_ q_ ZP.e)):=by
 refine⟨λC w f tg nm b v ZP h ZZ At y=>?_,λC n HL w f tg nm b v ZP th h hp la ZZ At y hn=>?_⟩;focus
  obtain⟨i1,hi,Bk,n9,qr⟩:=qP yx;obtain⟨s,r,rfl⟩:=bM ZZ.row;obtain⟨over,code,text,ask,name,v_⟩:=ZP;simp only at y;subst y;obtain⟨ZY,mv,H,ph,kr,-⟩:=yz w (ZF over) (J I code) (U text) (ZF ZA) (U name) (J I v_);have ZO:=ae (h.aa ZY ly);have U0:=ae (ZZ.aa ZY ly);have W:=ae C;have t:A (z w0)<=A (z w):=h.lt;have JM:f<A (z w):=by obtain⟨⟨aa,ca,j,ha⟩,-⟩:=ZZ;exact ah j
  have Fd:Hid (Q (A (z w)+1)≠(Value.slice s (B b) r).ownBlock):=λe=>by have:=(af ZZ.row _ e.c).2.1;omega
  have TN:Hid (Q (A (z w))≠(Value.slice s (B b) r).ownBlock):=λe=>by have:=(af ZZ.row _ e.c).2.1;omega
  clear h ZZ C;show Calls Pg 197 #[.pointer (Q (T mb 0 Y)),.pointer (Q (T f 0 Y)),ZJ #[ZF over,J I code,U text,ZF ZA,U name,J I v_]] w _;obtain⟨hb,DE⟩:∃hb,hb=fL S name:=⟨_,rfl⟩
  have JT:=ae DE;rw[<-DE];clear DE;go_enter func197,ntmps197;go_wp2_with fail;clear mv;generalize World.alloc (World.alloc w _) _=W0 at ZY H ph kr ZO U0 ⊢;obtain⟨ld,m0,m1,-⟩:=ZO.ab.y;refine wp_region_held_drew (S:=λV=>ZV V (T mb 0 Y)=Q (Z a0 S.n0 c0)/\ZV V (T mb 1 Y)=Q (Z a1 S.n1 c1)/\ZV V (T (A (z w)) 4 Y)=Q (U name)) (by kernel_rfl) ⟨m0,m1,H⟩ λhS=>?_;have D:=ae hS;clear hS
  iterate 6
   first|refine aN 0 (v:=?_) rfl rfl (by kernel_rfl) (λ_ _ _ h=>h) rfl ?_ D ?_|refine aN 4 (v:=?_) rfl rfl (by kernel_rfl) (λ_ _ _ h=>h) rfl ?_ D ?_
   rotate_left
   ·(rintro wz⟨s0,s1,s2⟩;go_simp)
    (try with_reducible rfl)
   (try simp only[Act.put,z_])
  refine aL (i:=6) rfl (by kernel_rfl) λK m=>?_;go_simp;go_at_call 98;have DQ:Hid (Below (A (z w0)) w0 W0.drew):=ZO.ak.drew;refine(rC a0 S.n0 c0 S.f0 a1 S.n1 c1 S.f1 name _ (by have:=W.ok.bb;omega) (by have:=W.ok.bb;omega) (W.src.aa DQ ly) (W.w.aa DQ ly) W.ok.asc0 W.ok.asc1).P ?_;rintro e g⟨he,hB⟩;rw[show(aF (nm0 S.f0) S.n0 name || aF (nm1 S.f1) S.n1 name)=hb from JT.c] at he;subst he;have ZS:Hid (Below (A (z W0)) W0 g):=⟨hB.os,hB.tape,hB.output,hB.size,hB.p⟩
  clear hB DQ;have JJ:A (z w)<A (z W0):=by omega
  refine m _ _ ⟨(ZS.O (p:=(T mb 0 Y)) ld).k m0,(ZS.O (p:=(T mb 1 Y)) ld).k m1,(ZS.O (p:=(T (A (z w)) 4 Y)) JJ).k H⟩ ?_;clear m K D;have D:Hid (ZV g (T mb 0 Y)=Q (Z a0 S.n0 c0)/\ZV g (T mb 1 Y)=Q (Z a1 S.n1 c1)/\ZV g (T (A (z w)) 4 Y)=Q (U name)):=⟨(ZS.O (p:=(T mb 0 Y)) ld).k m0,(ZS.O (p:=(T mb 1 Y)) ld).k m1,(ZS.O (p:=(T (A (z w)) 4 Y)) JJ).k H⟩
  (try simp only[Act.put,z_])
  refine aN 7 (v:=?_) rfl rfl (by kernel_rfl) (λ_ _ _ h=>h) rfl ?_ D ?_;rotate_left
  ·(rintro wz⟨s0,s1,s2⟩;go_simp)
   (try with_reducible rfl)
  (try simp only[Act.put,z_])
  refine wpAnyH_done (by kernel_rfl) ?_ _;have A1:=ae (ZY.k (ZS.P ZY.size));have KW:=ae (KX.l (X:=XN) A1 ly t);have M1:=ae (ZO.aa ZS ly);have U1:=ae (U0.aa ZS ly);have n4:=D.2.2;have Hx:Hid (g.heap[A (z w)+1]?=Q (N #[ZF ZA,J I 0,U ⟨#[]⟩] 119 (0,0))):=(ZS.p _ (by omega)).k kr;have JR:A (z w)+2<=A (z g):=by have:=ZS.size;omega
  clear D m0 m1 H ZO U0 kr ZY;go_wp2_with fail;obtain⟨o,ZQ⟩:∃x,x=q_:=⟨_,rfl⟩
  subst ZQ;obtain⟨L,ZQ⟩:∃x,x=G:=⟨_,rfl⟩
  subst ZQ;obtain⟨V',ZQ⟩:∃x,x=V:=⟨_,rfl⟩
  subst ZQ;obtain⟨ZM,ZQ⟩:∃x,x=mk:=⟨_,rfl⟩
  subst ZQ;obtain⟨ZN,ZQ⟩:∃x,x=md:=⟨_,rfl⟩
  subst ZQ;have MH:=True.intro;obtain⟨lk,sm⟩:∃l:Lk,l=⟨name,ZA,hb⟩:=⟨_,rfl⟩
 rotate_left;focus
  obtain⟨i1,hi,Bk,n9,qr⟩:=qP yx;obtain⟨s,r,rfl⟩:=bM ZZ.row;obtain⟨over,code,text,ask,name,v_⟩:=ZP;simp only at y hn;subst y;obtain⟨ZY,mv,H,ph,kr,kt⟩:=yz w (ZF over) (J I code) (U text) (ZF ZH) (U name) (J I v_);have ZO:=ae (h.aa ZY ly);have U0:=ae (ZZ.aa ZY ly);have W:=ae C;have JN:=ae HL;have PP:=ae hp;have t:A (z w0)<=A (z w):=h.lt;have JM:f<A (z w):=by obtain⟨⟨aa,ca,j,ha⟩,-⟩:=ZZ;exact ah j
  have Fd:Hid (Q (A (z w)+1)≠(Value.slice s (B b) r).ownBlock):=λe=>by have:=(af ZZ.row _ e.c).2.1;omega
  have TN:Hid (Q (A (z w))≠(Value.slice s (B b) r).ownBlock):=λe=>by have:=(af ZZ.row _ e.c).2.1;omega
  clear h ZZ C HL hp;show Calls Pg 197 #[.pointer (Q (T mb 0 Y)),.pointer (Q (T f 0 Y)),ZJ #[ZF over,J I code,U text,ZF ZH,U name,J I v_]] w _;obtain⟨R,hR⟩:∃R,R=aT S n y_ q_ name:=⟨_,rfl⟩
  have HR:=ae hR;simp only;rw[<-hR];clear hR;go_enter func197,ntmps197;go_wp2_with fail;clear mv H;generalize World.alloc (World.alloc w _) _=W0 at ZY ph kr kt ZO U0 ⊢;refine(JN y_ q_ G V mk md W0 name th ZO PP la hn).P ?_;intro e g Z8;rw[<-HR.i] at Z8;rcases R with⟨o,x⟩|c|d;rotate_left
  ·obtain⟨u,rfl,h1,h2⟩:=Z8
   go_wp2_with fail;exact⟨rfl,u,rfl,h1,(ZY.P t).k h2⟩
  ·obtain⟨rfl,h2⟩:=Z8
   go_wp2_with fail;exact⟨rfl,rfl,(ZY.P t).k h2⟩
  obtain⟨L,V',ZM,ZN,rfl,hM,hE,m⟩:=Z8;obtain⟨JP,-,hx,ro⟩:=dm W.ok n y_ q_ name o x PP hn HR.c;have M1:=ae hM;have U1:=ae (U0.step m hE);have E1:=ae (hE.P (show (A (z w))<=A (z W0) by omega));have KW:=ae ((KX.l (X:=XN) ZY ly t).to m);have HX:=ae hx;have JG:=ae ro;have JR:A (z w)+2<=A (z g):=by have:=m.aa.size;omega
  have Hx:Hid (g.heap[A (z w)+1]?=Q (N #[ZF ZA,J I 0,U ⟨#[]⟩] 119 (0,0))):=(m.ad _ _ _ _ kr (by decide) (by decide) (by decide) λh=>h).k kr;have GS:=(m.ad _ _ _ _ kt (by decide) (by decide) (by decide) λh=>h).k kt;have n4:ZV g (T (A (z w)) 4 Y)=Q (U name):=by simp[World.cell?,GS]
  rw[ro];clear hM hE m hx ro JP GS ZO U0 kr kt;go_wp2_with fail;obtain⟨lk,sm⟩:∃l:Lk,l=⟨name,ZH,ZA⟩:=⟨_,rfl⟩
 all_goals
  obtain⟨⟨aa,ca,j,ha⟩,-⟩:=U1.i;obtain⟨JI,-,-,-,-,-,-,e6,-,ef⟩:=j.y;have ef6:=ef 6;have hebB:A (z w0)<=f:=U1.ge;clear j ha ef;have SQ:Hid (∀V:E,(∀k,k<A (z g)->Q k≠(Value.slice s (B b) r).ownBlock->V.heap[k]?=g.heap[k]?)->ZV V (T f 6 Y)=Q (Z s (B b) r)/\ZV V (T (A (z w)) 4 Y)=Q (U name)):=λV hV=>by
   have ex:Q f≠(Value.slice s (B b) r).ownBlock:=λe=>by obtain⟨⟨aa,ca,j,ha⟩,-⟩:=U1.i;obtain⟨_,_,cs,hc⟩:=af U1.row f e.c;exact absurd (ar j hc) (by decide)
   have JL:Q (A (z w))≠(Value.slice s (B b) r).ownBlock:=TN.i;exact⟨(cq (a:=(T f 6 Y)) (hV f JI ex)).k e6,(cq (a:=(T (A (z w)) 4 Y)) (hV (A (z w)) (by omega) JL)).k n4⟩
  have D:=ae (SQ g.drew (λk O _=>rfl));have UD:Hid (EU w0 S g.drew f nm tg L b (Z s (B b) r) o V'):=U1.aa br.drew ly;have MD:Hid (MI w0 S mb mp (Z a0 S.n0 c0) (Z a1 S.n1 c1) g.drew y_ y_ o L V' ZM ZN):=M1.aa br.drew ly;refine aI (λV=>ZV V (T f 6 Y)=Q (Z s (B b) r)/\ZV V (T (A (z w)) 4 Y)=Q (U name)) 14 (by kernel_rfl) ?_;clear e6 n4
  iterate 10
   first|refine aO 0 (v:=?_) rfl rfl (by kernel_rfl) (λ_ _ _ h=>h) rfl ?_ D ?_|refine aO 5 (v:=?_) rfl rfl (by kernel_rfl) (λ_ _ _ h=>h) rfl ?_ D ?_
   rotate_left
   ·(rintro wz⟨s0,s1⟩;go_simp)
    (try with_reducible rfl)
   (try simp only[Act.put,z_])
  refine ai (i:=10) rfl (by kernel_rfl) λK m=>?_;go_simp;first|(guard_hyp MH;have AB:=ae ((a8 (A (z g)) g.drew).alloc ly (N #[U name,ZF ZA,ZF hb,J I 0,.pointer Y] 184)))|have AB:=ae ((a8 (A (z g)) g.drew).alloc ly (N #[U name,ZF ZH,ZF ZA,J I 0,.pointer (Q (T (L name) 0 Y))] 184))
  have UA:=ae (UD.aa AB ly);have MA:=ae (MD.aa AB ly);refine m _ _ (λ_=>SQ _ (λk O _=>AB.p k O)) ?_;clear m K
  (try simp only[Act.put,z_])
  refine ai (i:=11) rfl (by kernel_rfl) λK m=>?_;first|(guard_hyp MH;refine aU rfl (.tmp 23) (.tmp 29) 132 rfl (A (z w0)) 184 i1 (ZJ #[U ⟨#[]⟩,ZF ZA,ZF ZA,J I 0,.pointer Y]) 5 40 underlying132 hi Bk n9 qr rfl (by decide) (Z s (B b) r) (B b) (fE L b) (by simp[Act.eval]) UA.row (T (A (z g)) 0 Y) 1 1 [U name,ZF ZA,ZF hb,J I 0,.pointer Y] (by simp[Act.eval]) rfl (yy g.drew _ _ _ _ _ _) (by simp[Value.oneCell']) (by unfold maxLen;omega) (by omega) MA.lt ?_)|refine aU rfl (.tmp 43) (.tmp 49) 132 rfl (A (z w0)) 184 i1 (ZJ #[U ⟨#[]⟩,ZF ZA,ZF ZA,J I 0,.pointer Y]) 5 40 underlying132 hi Bk n9 qr rfl (by decide) (Z s (B b) r) (B b) (fE L b) (by simp[Act.eval]) UA.row (T (A (z g)) 0 Y) 1 1 [U name,ZF ZH,ZF ZA,J I 0,.pointer (Q (T (L name) 0 Y))] (by simp[Act.eval]) rfl (yy g.drew _ _ _ _ _ _) (by simp[Value.oneCell']) (by unfold maxLen;omega) (by omega) MA.lt ?_
  intro v' w3 fd P JK;have O3:=ae fd;have G3:=ae P;have ur:=ae JK;have S3:=ae (SQ w3 (λk O ex=>(P.p k (lj O (by simp<;>omega)) ex).k (AB.p k O)));obtain⟨ZR,ZT,rfl⟩:=bM fd;clear fd P JK;refine m _ _ (λ_=>S3) ?_;clear m K D
  (try simp only[Act.put,z_])
  iterate 2
   refine bV 12 rfl rfl (by kernel_rfl) λK m=>?_;go_simp;refine m _ _ (λ_=>S3) ?_;clear m K
   (try simp only[Act.put,z_])
  have M4:=ae (MA.tied UA G3 (v':=Z ZR (B b+1) ZT));first|(guard_hyp MH;have U4:=ae (UA.tied (l:=⟨name,ZA,hb⟩) (λh=>by cases h) G3.i O3.i ur.i MA.vlt))|have U4:=ae (UA.tied (l:=⟨name,ZH,ZA⟩) (λ_=>⟨x,HX,JG⟩) G3 O3 ur MA.vlt)
  rw[<-sm] at U4;have s6:=S3.1;have JQ:ZW w3 (T f 6 Y)=ZA:=by
   obtain⟨⟨aa,ca,j,ha⟩,-⟩:=UA.i;have ex:Q f≠(Value.slice s (B b) r).ownBlock:=λe=>by obtain⟨_,_,cs,hc⟩:=af UA.row f e.c;exact absurd (ar j hc) (by decide)
   exact(NG (a:=(T f 6 Y)) (G3.p f (ah j) ex)).k (j.y.2.2.2.2.2.2.2.2.2 6)
  have JO:A (z g)<=A (z w3):=nX (by simp<;>omega) G3.size;have hel3:f<A (z w3):=lj JI JO;refine ai (i:=14) rfl (by kernel_rfl) λK m=>?_;go_simp;refine m _ _ (λh=>absurd rfl h) ?_;clear m K s6 JQ
  (try simp only[Act.put,z_])
  refine ba (by kernel_rfl) ?_ _;have RB:Hid ((w3.setCell (T f 6 Y) (Z ZR (B b+1) ZT)).heap[A (z w)+1]?=Q (N #[ZF ZA,J I 0,U ⟨#[]⟩] 119 (0,0))):=(qh _ _ _ _ (show (A (z w))+1≠f by omega)).k ((G3.p _ (lj (show (A (z w))+1<A (z g) by omega) (by simp<;>omega)) Fd).k ((AB.p _ (by omega)).k Hx));have R4:Hid (RepSt w0 S mb mp (Z a0 S.n0 c0) (Z a1 S.n1 c1) w (w3.setCell (T f 6 Y) (Z ZR (B b+1) ZT)) y_ o L V' ZM ZN f tg nm (b++[lk]) (Z s (B b) r) (Z ZR (B b+1) ZT)):=by
   refine⟨M4.1,U4,?_,λk O=>?_⟩
   ·exact((KW.to (KX.l (X:=XN) (⟨AB.os,AB.tape,AB.output,AB.size,AB.p⟩:Below (A (z g)) g _) ly (by omega))).weak).k M4.2 λ_ _ h=>h
   ·rcases ur.i with e|e
    ·exact .inl (by rw[<-e];exact O)
    ·rw[e] at O
     cases O
     exact .inr (nX (show (A (z w))<=A (z g) by omega) (by simp<;>omega))
  generalize World.setCell w3 _ _=W4 at RB R4 ⊢;obtain⟨rl,r0,r1,r2,M⟩:=dL RB;have Fk:=M 0;have JH:=M 1;have Fm:=M 2;subst sm
 focus
  clear M M4 U4;have EX:=ae (R4.1.W x HX);obtain⟨act,j,bt⟩:=EX.ad;rw[JG.i] at j;obtain⟨q,q0,q1,q2,q3,q4,q5,-,-,-⟩:=j.y;obtain⟨aa,na,ca,rfl⟩:∃a n c,act=Z a n c:=by
   unfold oF at bt;split at bt
   ·obtain⟨_,a,c,e,_⟩:=bt;exact⟨a,_,c,e⟩
   ·exact⟨_,_,_,bt⟩
  clear j bt;go_wp2_with fail;refine(sj ⟨name,x.L,x.M,x.H,na,λ_=>⟨0,⟨#[]⟩,0⟩,0,λ_=>⟨⟨#[]⟩,ZA,ZA,0⟩⟩ aa ca Y 0 W4).P ?_;rintro e w5⟨rfl,aq⟩;have Id:Hid (w5.heap[A (z w)+1]?=Q (N #[ZF ZA,J I 0,U ⟨#[]⟩] 119 (0,0))):=(aq.p _ rl).k RB;have R5:Hid (RepSt w0 S mb mp (Z a0 S.n0 c0) (Z a1 S.n1 c1) w w5 y_ o L V' ZM ZN f tg nm (b++[⟨name,ZH,ZA⟩]) (Z s (B b) r) (Z ZR (B b+1) ZT)):=⟨R4.1.aa aq ly,R4.2.1.aa aq ly,R4.2.2.1.to (KX.l aq ly R4.1.lt),R4.2.2.2⟩
  clear r0 r1 r2 Fk JH Fm q0 q1 q2 q3 q4 q5 aq;obtain⟨rl5,r0,r1,r2,M⟩:=dL Id;have Fk:=M 0;have JH:=M 1;have Fm:=M 2;clear M;obtain⟨kb,n8⟩:∃kb,kb=decide (¬ x.L=2):=⟨_,rfl⟩
  have JS:=ae n8;simp only;rw[<-n8];clear n8;go_wp2_with fail;refine bp (v:=ZJ #[ZF kb,J I x.M,U x.H]) (by simp[results,results197,go_sem,r0,r1,r2]) rfl ?_;show yA w0 S mb mp (Z a0 S.n0 c0) (Z a1 S.n1 c1) y_ q_ G V w f tg nm name b (Z s (B b) r) _ _ (.inl (o,x));refine⟨by rw[JS.i],L,V',ZM,ZN,Z ZR (B b+1) ZT,?_,E1⟩;have X0:=R5.set Id.i (by decide) t (BV _) 0 (ZF kb);have X1:=X0.1.set X0.2 (by decide) t (BV _) 1 (J I x.M);have X2:=X1.1.set X1.2 (by decide) t (BV _) 2 (U x.H);exact X2.1
 focus
  clear M M4 U4;go_wp2_with fail;refine bp (v:=ZJ #[ZF hb,J I 0,U ⟨#[]⟩]) (by simp[results,results197,go_sem,r0,r1,r2]) rfl ⟨rfl,Z ZR (B b+1) ZT,?_⟩;have X0:=R4.set RB.i (by decide) t (BV _) 0 (ZF hb);have X1:=X0.1.set X0.2 (by decide) t (BV _) 1 (J I 0);have X2:=X1.1.set X1.2 (by decide) t (BV _) 2 (U ⟨#[]⟩);exact X2.1
end
def FU (f g yh j_:Nat)(w:E):Calls Pg 136 #[ZJ #[Z (Q (T f g Y)) yh j_]] w λe w'=>∃b,e=ZI (.func (.func 158) #[] #[.pointer (Q (T b 0 Y))])/\(A (z w))<=b/\MAt w' b (Z (Q (T f g Y)) yh j_) m0/\(∃h,w'.heap[b]?=Q (N h 240 (0,0)))/\Below (A (z w)) w w':=by
 have j:=ae ((BS w).alloc ly (N #[Z (Q (T f g Y)) yh j_] 37));have k0:ZV (ZU w (N #[Z (Q (T f g Y)) yh j_] 37)) (T (A (z w)) 0 Y)=Q (Z (Q (T f g Y)) yh j_):=by simp
 have z0:A (z (ZU w (N #[Z (Q (T f g Y)) yh j_] 37)))=A (z w)+1:=by simp
 have l:=ae (vd (ZU w (N #[Z (Q (T f g Y)) yh j_] 37)) (Q (T f g Y)) yh j_);have i:=ae (by have:=l.i;rw[z0] at this;exact this);have n:=ae (j.alloc j.size (N (fD (Z (Q (T f g Y)) yh j_)) 240));have m:Hid (∃h,((ZU w (N #[Z (Q (T f g Y)) yh j_] 37)).alloc (N (fD (Z (Q (T f g Y)) yh j_)) 240)).heap[A (z w)+1]?=Q (N h 240 (0,0))):=by have h2:=gM (ZU w (N #[Z (Q (T f g Y)) yh j_] 37)) (N (fD (Z (Q (T f g Y)) yh j_)) 240);rw[z0] at h2;exact⟨_,h2⟩
 go_enter func136,ntmps136
 go_wp2_with (first
  |(refine ve rfl 240 #[(1,.tmp 5)] rfl [(1,Z (Q (T f g Y)) yh j_)] (fD (Z (Q (T f g Y)) yh j_)) (by simp[Act.eval]) (Bu _ _ _) ?_)
  |(refine wpList_store_row rfl 240 (.tmp 3) (.tmp 6) rfl (A (z w)+1) (fD (Z (Q (T f g Y)) yh j_)) rfl rfl _ _ (by rw[<-z0];exact heap_alloc_last _ _) (infoM.k (by rw[jq])) (by rw[jq];rfl) (sK _ _ _) ?_;rw[<-z0,World.setRow_alloc_new])
  |fail)
 go_ret;exact⟨_,rfl,by first|(simp;done)|(simp;omega),i,m,n⟩
section
variable {w0 w w':E}{S:J_}{mb mp:Nat}{s0 s1 mk md:ZB}{yh nk np:Nat}{F:List UInt8->Option ZB}{ks ps:List ZB}{q_:List k_}{G:F_->Nat}{V:F_->ZB}
def MIg.ac{fz:Nat × Nat}(h:MIg w0 S mb mp s0 s1 w yh F nk ks np ps q_ G V mk md)(hb:w.heap[b]?=Q (N j t fz))(Z8:vU t)(C:A (z w0)<=b)(n:zt b w w'):MIg w0 S mb mp s0 s1 w' yh F nk ks np ps q_ G V mk md:=by
 have ZZ:KX (A (z w0)) (λi=>i=b) w w':=KX.of_only n rfl h.lt C;obtain⟨r,y,ZY,u,s⟩:=Z8;refine h.kx ZZ (λi o hi m=>n.p i (ah hi) m) (λe=>?_) (λe=>?_) (λk f e=>?_) (λk f e=>?_) λx p=>⟨λe=>?_,λk f e=>?_⟩
 {subst e;exact ZY (ar hb h.ab)};{obtain⟨es,c,q⟩:=h.map.isMap;rw[e,hb] at q;cases q};{subst e;obtain⟨_,_,j,g⟩:=af h.rmk _ f;exact r (ar hb g)};{subst e;obtain⟨_,_,j,g⟩:=af h.X _ f;exact y (ar hb g)};{obtain⟨act,l,_⟩:=(h.W x p).ad;rw[e] at l;exact u (ar hb l)};{subst e;obtain⟨_,_,j,g⟩:=af (h.W x p).row _ f;exact s (ar hb g)}
def EU.ac{g:List Lk}{v:ZB}{fz:Nat × Nat}(h:EU w0 S w m nm tg G g v q_ V)(hb:w.heap[b]?=Q (N j t fz))(ZZ:vU t)(i:zt b w w'):EU w0 S w' m nm tg G g v q_ V:=by
 obtain⟨⟨a,j_,f,s⟩,l,o,p,n,has⟩:=h;obtain⟨t1,t2,t3,x,r⟩:=ZZ;refine⟨⟨a,j_,(i.p _ (ah f) λe=>?_).k f,s⟩,l,b9 o λk q=>?_,p,n,has⟩;{subst e;exact x (ar hb f)};{obtain⟨_,y,j,u⟩:=af o _ q;exact i.p k y λe=>r (ar hb (e ▸ u))}
def MIg.entOnly{fz:Nat × Nat}(h:MIg w0 S mb mp s0 s1 w yh F nk ks np ps q_ G V mk md)(hb:w.heap[g]?=Q (N j 134 fz))(q:∀x∈q_,G x.e≠g)(s:A (z w0)<=g)(m:zt g w w'):MIg w0 S mb mp s0 s1 w' yh F nk ks np ps q_ G V mk md:=by
 have r:KX (A (z w0)) (λi=>i=g) w w':=KX.of_only m rfl h.lt s;refine h.kx r (λi o hi l=>m.p i (ah hi) l) (λe=>?_) (λe=>?_) (λk b e=>?_) (λk b e=>?_) λx n=>⟨λe=>q x n e,λk b e=>?_⟩
 {subst e;exact absurd (ar hb h.ab) (by decide)};{obtain⟨es,c,p⟩:=h.map.isMap;rw[e,hb] at p;cases p};{subst e;obtain⟨_,_,j,f⟩:=af h.rmk _ b;exact absurd (ar hb f) (by decide)};{subst e;obtain⟨_,_,j,f⟩:=af h.X _ b;exact absurd (ar hb f) (by decide)};{subst e;obtain⟨_,_,j,f⟩:=af (h.W x n).row _ b;exact absurd (ar hb f) (by decide)}
end
def MAt.ad{m:Mst}(h:MAt w b f m)(hb:w'.heap[b]?=w.heap[b]?)(i:A (z w)<=A (z w')):MAt w' b f m:=
 ⟨lj h.1 i,λj g=>⟨(cq (a:=(T b j Y)) hb).k (h.2 j g).1,(NG (a:=(T b j Y)) hb).k (h.2 j g).2⟩⟩
def TB (w:E)(g:Nat)(t:Turn):Prop:=w.heap[g]?=Q (N #[ZF t.K,J I t.M,U t.H,ZF t.ask,U t.e,J I t.j] 116 (0,0))
def TB.y{t:Turn}(h:TB w g t):g<A (z w)/\ZV w (T g 0 Y)=Q (ZF t.K)/\ZV w (T g 1 Y)=Q (J I t.M)/\ZV w (T g 2 Y)=Q (U t.H)/\ZV w (T g 3 Y)=Q (ZF t.ask)/\ZV w (T g 4 Y)=Q (U t.e)/\ZV w (T g 5 Y)=Q (J I t.j)/\∀j,ZW w (T g j Y)=ZA:=by unfold TB at h;refine⟨ah h,?_,?_,?_,?_,?_,?_,λj=>?_⟩;all_goals simp[World.cell?,World.frozen?,h]
def TB.put{u:Turn}(h:TB w g u)(t:Turn):TB (fY w g t) g t:=
 aw (aw (aw (aw (aw (aw h (j:=0) _) (j:=1) _) (j:=2) _) (j:=3) _) (j:=4) _) (j:=5) _
def TB.ac{t:Turn}(h:TB w g t)(f:zt b w w')(i:g≠b):TB w' g t:=(f.p g (ah h) i).k h
def ContOk (S:J_)(tg:Nat)(b:List aD)(H:Halt):Prop:=∀(y:Nat->aD) (n:Nat),B b<=n->(∀i,i<B b->y i=yL b i)->eC (S.f1 tg).q (S.f1 tg).h y n H=cA (S.f1 tg).q (S.f1 tg).h y n 2001 0 0 0 []
def ContOk.turn{b:List aD}{H:Halt}{m:Mst}(h:ContOk S tg b H)(g:fh m H)(hL:gP (B b) H):m.t=bK S tg b:=by rw[<-oP (f:=(S.f1 tg).q) (yh:=(S.f1 tg).h) (y:=yL b) g hL];exact h (yL b) (B b) ly λ_ _=>rfl
def ContOk.step{b:List aD}{a:Bool}{s:List F_}{p st:Nat}{g:Halt}{r:aD}(h:ContOk S tg b (.inr (a,nm,s,p,st,(B b+1))))(j:∀y n,B b+1<=n->y (B b+1 - 1)=r->eC (S.f1 tg).q (S.f1 tg).h y n (.inr (a,nm,s,p,st,(B b+1)))=eC (S.f1 tg).q (S.f1 tg).h y n g):ContOk S tg (b++[r]) g:=by intro y n hn f;rw[cM,AI] at hn f;rw[<-j y n hn (by rw[QS,f _ (eL _),GJ])];exact h y n (by omega) λi hi=>by rw[f i (by omega),Cb b r hi]
structure RI (w0:E)(S:J_)(mb mp:Nat)(s0 s1:ZB)(w:E)(n:Nat)(y_:List F_)(eb tg:Nat)(nm:F_)(b:Nat)(cv:ZB)(tb:Nat)(made0:List k_)(G0:F_->Nat)(V0:F_->ZB)(R0:Out (Turn × List Lk))(wr:E)(ys:List aD)(ls:List Lk)(q_:List k_)(G:F_->Nat)(V:F_->ZB)(mk md v:ZB)(m:Mst)(H:Halt):Prop where
 mi:MI w0 S mb mp s0 s1 wr y_ y_ q_ G V mk md
 pg:PG S y_ q_
 rg:RG S q_ ys ls
 room:eX S y_ q_ (201 - (B ys))
 eu:EU w0 S wr eb nm tg G ls v q_ V
 ma:MAt wr b cv m
 ty:∃cs,wr.heap[b]?=Q (N cs 240 (0,0))
 tb:TB wr tb m.t
 st:fh m H
 lk:gP (B ys) H
 co:ContOk S tg ys H
 run:bT S (aT S n y_) tg (201 - (B ys)) q_ ys ls=R0
 le:B ys<=200
 ext:Ext (A (z w)) made0 q_ G0 G V0 V
 kx:KX (A (z w0)) (λi=>i=eb) w wr
 vn:∀k,v.ownBlock=Q k->A (z w)<=k
def Ig (w0:E)(S:J_)(mb mp:Nat)(s0 s1:ZB)(y_:List F_)(q_:List k_)(G:F_->Nat)(V:F_->ZB)(w:E)(f tg:Nat)(nm:F_)(e:Ending)(w':E):Out (Turn × List Lk)->Prop
 |.inl (made',x)=>e=ZI (.tuple #[])/\∃b j h l g,MI w0 S mb mp s0 s1 w' y_ y_ made' b j h l/\EntAt w0 S b w' f g ⟨nm,3,x.1.M,x.1.H,tg,x.2⟩/\(∀y∈made',b y.e≠f)/\(∀k,g.ownBlock=Q k->A (z w)<=k)/\Ext (A (z w)) q_ made' G b V j/\KX (A (z w0)) (λi=>i=f) w w'
 |.inr (.inl c)=>∃v,e=.panicked [{ v:=.iface 220 (ZJ #[v]),recovered:=ZA }]/\ZX w' (A (z w0)) 9 1 v (B c) (bO c)/\Below (A (z w0)) w w'
 |.inr (.inr d)=>e=.panicked [{ v:=.iface 222 (ZJ #[U d]),recovered:=ZA }]/\Below (A (z w0)) w w'
section
variable {w0:E}{S:J_}{a0 a1:O_}{c0 c1 mb mp:Nat}{y_:List F_}
def FV (C:Ctx w0 S a0 c0 a1 c1)(n:Nat)(HL:jX w0 S mb mp (Z a0 S.n0 c0) (Z a1 S.n1 c1) n)(o:List k_)(G0:F_->Nat)(V0:F_->ZB)(JG JU:ZB)(w:E)(q tg:Nat)(nm:F_)(Ku:B y_+n=60)(h:MI w0 S mb mp (Z a0 S.n0 c0) (Z a1 S.n1 c1) w y_ y_ o G0 V0 JG JU)(hp:PG S y_ o)(At:eX S y_ o 201)(Kb:tg<S.n1)(hu:EU w0 S w q nm tg G0 [] (Z Y 0 0) o V0):Calls Pg 192 #[.pointer (Q (T mb 0 Y)),.pointer (Q (T q 0 Y))] w λe w'=>Ig w0 S mb mp (Z a0 S.n0 c0) (Z a1 S.n1 c1) y_ o G0 V0 w q tg nm e w' (bT S (aT S n y_) tg 201 o [] []):=by
 obtain⟨Km,hc1,Kk⟩:=bJ (C.ok.q tg Kb);obtain⟨⟨av,j_,O,ZN⟩,sm,qr,ex,-,-⟩:=hu;obtain⟨ZP,R,rfl,DQ⟩:∃ZP R,av=Q (T ZP R Y)/\Qj w0 ZP R (S.f1 tg).h (S.f1 tg).q:=by
  rcases ZN with h|⟨b,off,e,hr⟩
  {omega};{exact⟨b,off,e,hr⟩}
 obtain⟨hel,-,-,-,-,e4,-,-,-,-⟩:=O.y;have HU:Hid (EU w0 S w q nm tg G0 [] (Z Y 0 0) o V0):=⟨⟨_,_,O,ZN⟩,sm,qr,ex,λ_ _ k hk=>(by cases hk),λ_ hl=>absurd hl nj⟩
 have HM:=ae h;have HP:=ae hp;have HRI:=ae DQ;have CC:=ae C;have KJ:=ae HL;have P:A (z w0)<=A (z w):=h.lt;have JQ:Hid (∀W b,Below (A (z w0)) w0 W->A (z w0)<=b->Env W b ZP R (S.f1 tg).h (S.f1 tg).q):=λW b hW hb=>⟨DQ.aa hW ly,C.tab.aa hW C.tab.1,C.pow.aa hW ly,lj DQ.1 hb,lj C.tab.1 hb,lj C.pow.lt hb⟩
 obtain⟨R0,JO⟩:∃R0,R0=bT S (aT S n y_) tg 201 o [] []:=⟨_,rfl⟩
 rw[<-JO];have KP:=ae JO;clear h hp DQ C HL O ZN qr ex JO;obtain⟨H0,Hx⟩:=sJ (S.f1 tg).q (S.f1 tg).h 2001 0 0 0 [] (by omega) (by omega);have J5:Hid (Goes (S.f1 tg).q (S.f1 tg).h m0 H0):=.inl ⟨rfl,0,0,0,[],⟨trivial,rfl,by simp,rfl,rfl,rfl,λx hx=>absurd hx nj,by omega,by omega,by omega⟩,Hx⟩;have JS:=ae (λy n=>pr (S.f1 tg).q (S.f1 tg).h y n 2001 0 0 0 [] H0 (by omega) rfl Hx);clear Hx;go_enter func192,ntmps192;go_wp2_with fail;refine(FU ZP R (S.f1 tg).h j_ w).P ?_;rintro e w1⟨b,rfl,hb,J8,JN,Kg⟩;have Kj:=ae J8;have Ks:=ae JN;have B1:=ae Kg;clear J8 JN Kg e4;go_wp2_with fail;refine(qD b ZP R (S.f1 tg).h j_ (S.f1 tg).q m0 H0 ⟨ZA,0,⟨#[]⟩⟩ _ Kj (JQ _ _ (HM.ak.k (B1.P P)) (nX P hb)) rfl (by omega) Km J5).P ?_;rintro e w2⟨ZM,rfl,Ka,J9,fd⟩;have Fm:=ae Ka;have JX:=ae J9;have O2:=ae fd;have JY:Hid (∃D,w2.heap[b]?=Q (N D 240 (0,0))):=by obtain⟨D,Z8⟩:=Ks.i;exact fd.ty D _ _ Z8
 have La:A (z w1)<=A (z w2):=fd.size;have B2:=ae (B1.k (fd.aa hb B1.size));clear Ka J9 fd;simp only[Turn.v];obtain⟨W3,ph⟩:∃W:E,ZU w2 (N #[ZF ZM.t.K,J I ZM.t.M,U ZM.t.H,ZF ZM.t.ask,U ZM.t.e,J I ZM.t.j] 116)=W:=⟨_,rfl⟩
 obtain⟨A3,-,-⟩:=nb1 ph;have n8:=ae ph;clear ph;have JV:Hid (TB W3 (A (z w2)) ZM.t):=by rw[<-n8.i];exact gM _ _
 have n9:b<A (z w2):=Fm.lt;go_wp2;rw[n8.i];clear n8;obtain⟨tb,J6⟩:∃tb,tb=A (z w2):=⟨_,rfl⟩
 rw[<-J6] at JV ⊢;have Kt:A (z w)<=tb:=by have:=B2.size;omega
 have hbtb:b<tb:=by omega
 have B3:=ae (B2.k (A3.P B2.size));have J7:Hid (RI w0 S mb mp (Z a0 S.n0 c0) (Z a1 S.n1 c1) w n y_ q tg nm b (Z (Q (T ZP R Y)) (S.f1 tg).h j_) tb o G0 V0 R0 W3 [] [] o G0 V0 JG JU (Z Y 0 0) ZM H0):=
  ⟨HM.aa B3 ly,HP,iv S o,At,HU.aa B3 ly,Fm.aa A3 n9,(by obtain⟨D,Z8⟩:=JY.i;exact⟨D,(A3.p b n9).k Z8⟩),JV,JX,(JS (yL []) 0).2,λy n _ _=>(JS y n).1.c,KP.c,DW _,Ext.refl _ _ _ _,KX.l B3 ly P,λk hk=>(by cases hk)⟩
 clear J6 JV A3 B2 Kj Ks Fm JY JX O2 J5 JS B1 HM HU At HP B3 La n9;go_loopg [] 202 (λg wr=>∃p ZO q_ G V mk md v m H,Hid (RI w0 S mb mp (Z a0 S.n0 c0) (Z a1 S.n1 c1) w n y_ q tg nm b (Z (Q (T ZP R Y)) (S.f1 tg).h j_) tb o G0 V0 R0 wr p ZO q_ G V mk md v m H)/\201 - (B p)<=g);case atStart=>exact⟨[],[],o,G0,V0,JG,JU,_,ZM,H0,J7,by simp⟩
 case round =>
  clear J7;obtain⟨p,ZO,q_,G,V,mk,md,v,m,H,f,hg⟩:=hrel;have HT:=ae (f.co.turn f.st f.lk);obtain⟨tbl,t0,t1,t2,t3,t4,t5,tf⟩:=f.tb.y;obtain⟨JP,JK,JJ,JL,JH,JM⟩:=al6 tf;clear tf;have hbw:A (z w)<=b:=hb;have KM:q≠b:=by omega
  have ZQ:q≠tb:=by omega
  cases ho:m.t.K with
  |true =>
   rw[ho] at t0;have KZ:Hid (R0=.inl (q_,(m.t,ZO))):=by show _=_;rw[<-f.run,show 201 - (B p)=(200 - (B p))+1 by have:=f.le;omega,bT,<-HT.i,eT ho]
   obtain⟨⟨ax,cx,O,ZN⟩,-⟩:=f.eu;obtain⟨hel2,-,-,e2,e3,-,-,-,-,ef⟩:=O.y;have ef2:=ef 2;have ef3:=ef 3;have JR:=ae O;have KV:=ae ZN;clear O ZN ef;obtain⟨code,ZL⟩:∃code,code=m.t.M:=⟨_,rfl⟩
   obtain⟨text,aq⟩:∃text,text=m.t.H:=⟨_,rfl⟩
   rw[<-ZL] at t1;rw[<-aq] at t2;have HC:=ae ZL;have HX:=ae aq;clear ZL aq;go_wp2_with fail;clear t0 t3 t4 t5 JP JK JJ JL JH JM;refine wp_region_held_drew (S:=λV=>ZV V (T tb 1 Y)=Q (J I code)/\ZV V (T tb 2 Y)=Q (U text)) (by as_aux_lemma=>kernel_rfl) ⟨t1,t2⟩ λhS=>?_;have HS:=ae hS;clear hS;iterate 9
    first|refine aN 0 (v:=?_) rfl rfl (by as_aux_lemma=>kernel_rfl) (λ_ _ _ h=>h) rfl ?_ HS ?_|refine aN 4 (v:=?_) rfl rfl (by as_aux_lemma=>kernel_rfl) (λ_ _ _ h=>h) rfl ?_ HS ?_
    rotate_left
    ·(rintro wz⟨s0,s1⟩;go_simp)
     (try with_reducible rfl)
    (try simp only[Act.put,z_])
   have S5:Hid ((wr.drew.setCell (T q 2 Y) (J I code)).cell? (T tb 1 Y)=Q (J I code)/\(wr.drew.setCell (T q 2 Y) (J I code)).cell? (T tb 2 Y)=Q (U text)):=⟨(Q_ _ _ _ _ ZQ).k HS.1,(Q_ _ _ _ _ ZQ).k HS.2⟩
   refine aL (i:=9) rfl (by as_aux_lemma=>kernel_rfl) λK hK=>?_;go_simp;refine hK _ _ S5 ?_;clear hK K HS
   (try simp only[Act.put,z_])
   have HS:=S5;iterate 3
    refine aN 10 (v:=?_) rfl rfl (by as_aux_lemma=>kernel_rfl) (λ_ _ _ h=>h) rfl ?_ HS ?_;rotate_left
    ·(rintro wz⟨s0,s1⟩;go_simp)
     (try with_reducible rfl)
    (try simp only[Act.put,z_])
   have S6:Hid (((wr.drew.setCell (T q 2 Y) (J I code)).setCell (T q 3 Y) (U text)).cell? (T tb 1 Y)=Q (J I code)/\((wr.drew.setCell (T q 2 Y) (J I code)).setCell (T q 3 Y) (U text)).cell? (T tb 2 Y)=Q (U text)):=⟨(Q_ _ _ _ _ ZQ).k S5.1,(Q_ _ _ _ _ ZQ).k S5.2⟩
   refine aL (i:=13) rfl (by as_aux_lemma=>kernel_rfl) λK hK=>?_;go_simp;refine hK _ _ S6 ?_;clear hK K
   (try simp only[Act.put,z_])
   refine wpAnyH_done (by as_aux_lemma=>kernel_rfl) ?_ _;have OE:Hid (zt q wr ((wr.setCell (T q 2 Y) (J I code)).setCell (T q 3 Y) (U text)).drew):=(ce (ce (zt.refl q wr) 2 _) 3 _).drew;have Kn:Hid (EntBlk ((wr.setCell (T q 2 Y) (J I code)).setCell (T q 3 Y) (U text)).drew q nm 3 code text (Z ax (S.f1 tg).h cx) v 0):=aw (aw JR (j:=2) _) (j:=3) _;generalize World.drew (World.setCell (World.setCell wr _ _) _ _)=W6 at OE Kn ⊢;go_end0;rw[KZ.i];refine⟨rfl,G,V,mk,md,v,f.mi.entOnly JR f.eu.free sm OE,⟨⟨_,by rw[<-HC.i,<-HX.i];exact Kn,by rw[oF,eT rfl];exact⟨Kb,_,_,rfl,KV⟩⟩,sm,b9 f.eu.row λk hk=>?_⟩,f.eu.free,f.vn,f.ext,f.kx.k (KX.of_only (X:=λi=>i=q) OE rfl f.mi.lt sm) (λ_ _ h=>h)⟩;obtain⟨_,hl,D,Z8⟩:=af f.eu.row k hk;exact OE.p k hl λe=>absurd (ar JR (e ▸ Z8)) (by decide)
  |false =>
   obtain⟨a,ZY,s2,pp,st,l,rfl⟩:=oQ f.st ho;have el:l=B p+1:=f.lk;subst el;obtain⟨th,mv,JT,-⟩:=f.st;have hylt:B p<200:=by have:=mv.lk;omega
   have HTT:=ae th;rw[th] at t0 t1 t2 t3 t4 t5;simp only at t0 t1 t2 t3 t4 t5;have HSM:=ae mv;have DE:=ae JT;have Ki:Hid (bK S tg p=⟨ZA,0,⟨#[]⟩,a,ZY,st⟩):=HT.c.k th;have Kl:B ZO<=200:=by have:=f.rg.len;omega
   clear th mv JT;have Kc:Hid (∀k,v.ownBlock=Q k->k≠b/\k≠tb):=λk hk=>by obtain⟨_,_,D,Z8⟩:=af f.eu.row k hk;obtain⟨cs2,Kk⟩:=f.ty;exact⟨λe=>absurd (ar Kk (e ▸ Z8)) (by decide),λe=>absurd (ar (show wr.heap[tb]?=_ from f.tb) (e ▸ Z8)) (by decide)⟩
   cases a
   focus
    go_wp2_with fail;clear t0 t1 t2 t3 t4 t5 JP JK JJ JL JH JM;refine(sY.1 CC wr q tg nm ZO v ⟨ZA,0,⟨#[]⟩,ZA,ZY,st⟩ f.mi f.eu Kl rfl).P ?_;rintro e w3⟨rfl,v',la⟩;have ZS:=ae la;clear la;obtain⟨M,ld⟩:∃M,M=fL S ZY:=⟨_,rfl⟩
    have Ko:=ae ld;simp only at ZS ⊢;rw[<-ld] at ZS ⊢;clear ld;have NX:Hid (bT S (aT S n y_) tg (200 - (B p)) q_ (p++[⟨M,0,⟨#[]⟩⟩]) (ZO++[⟨ZY,ZA,M⟩])=R0):=by show _=_;have:=f.run;rw[show 201 - (B p)=(200 - (B p))+1 by omega,bT,Ki.i,eI (by simp),eT rfl,<-Ko.i] at this;exact this
    have Kp:=ae f.pg;have Fk:Hid (RG S q_ (p++[⟨M,0,⟨#[]⟩⟩]) (ZO++[⟨ZY,ZA,M⟩])):=f.rg.add (by rw[Ko.i];exact lv _ _) DE (λh=>by cases h);have Kh:Hid (eX S y_ q_ (200 - (B p))):=by have:=f.room;unfold eX at this ⊢;show _<=_;omega
    have Kf:=ae f.ext;have Fd:Hid ((⟨M,0,⟨#[]⟩⟩:aD).H.size<=2000):=DW _
   rotate_left;focus
    go_wp2_with fail;clear t0 t1 t2 t3 t4 t5 JP JK JJ JL JH JM;refine(sY.2 CC n KJ wr q tg nm ZO v ⟨ZA,0,⟨#[]⟩,ZH,ZY,st⟩ Ku f.mi f.pg (by have:=f.room;unfold eX at this ⊢;omega) f.eu Kl rfl DE).P ?_;intro e w3 ZZ;simp only at ZZ;have s:=f.run;rw[show 201 - (B p)=(200 - (B p))+1 by omega,bT,Ki.i,eI (by simp),eI (by simp)] at s;simp only at s;rcases hr:aT S n y_ q_ ZY with⟨ZR,x⟩|c|d;rotate_left
    ·rw[hr] at ZZ s
     obtain⟨u,rfl,h1,h2⟩:=ZZ;subst s;go_wp2_with fail;exact⟨rfl,u,rfl,h1,f.kx.aa.k h2⟩
    ·rw[hr] at ZZ s
     obtain⟨rfl,h2⟩:=ZZ;subst s;go_wp2_with fail;exact⟨rfl,rfl,f.kx.aa.k h2⟩
    rw[hr] at ZZ s;dsimp only at s;obtain⟨rfl,G2,V2,mk2,md2,v',la,GS⟩:=ZZ;obtain⟨ro,-,hx,Kr⟩:=dm CC.ok n y_ q_ ZY ZR x f.pg DE hr;have ur:=iq S n y_ q_ ZY ZR x hr;have ZS:=ae la;have NX:=ae s;have Kp:=ae ro;have Id:gF x=⟨decide (¬ x.L=2),x.M,x.H⟩:=rfl;have Fk:Hid (RG S ZR (p++[gF x]) (ZO++[⟨ZY,ZH,ZA⟩])):=(f.rg.P GS.mem).add (lw (ro.W x hx)) DE (λ_=>⟨x,hx,Kr⟩);have Kh:Hid (eX S y_ ZR (200 - (B p))):=by have:=f.room;unfold eX at this ⊢;unfold fO at ur;show _<=_;omega
    have Kf:=ae (f.ext.k GS f.kx.aa.size);have Fd:Hid ((gF x).H.size<=2000):=(ro.W x hx).tx;rw[Id] at NX Fk Fd;clear la s ro hx Kr ur GS hr Id;obtain⟨kb,JZ⟩:∃kb,kb=decide (¬ x.L=2):=⟨_,rfl⟩
    rw[<-JZ] at NX Fk Fd ⊢;clear JZ
   all_goals
    have BK:Hid (w3.heap[b]?=wr.heap[b]?):=by obtain⟨D,Z8⟩:=f.ty;exact ZS.2.2.1.ad b _ _ _ Z8 (by decide) (by decide) (by decide) λh=>by rcases h with h|h;exact KM h.c;exact(Kc b h).1 rfl
    have TK:Hid (TB w3 tb m.t):=(ZS.2.2.1.ad tb _ _ _ f.tb (by decide) (by decide) (by decide) λh=>by rcases h with h|h;exact ZQ h.c;exact(Kc tb h).2 rfl).k f.tb;have Kv:A (z wr)<=A (z w3):=ZS.2.2.1.aa.size;have KQ:=ae (f.ma.ad BK Kv);have Kw:Hid (∃D,w3.heap[b]?=Q (N D 240 (0,0))):=by obtain⟨D,Z8⟩:=f.ty;exact⟨D,BK.k Z8⟩
    go_wp2_with fail;refine(sL b ZP R (S.f1 tg).h j_ (S.f1 tg).q m _ ZY s2 pp st (B p+1) ⟨_,_,_⟩ _ KQ (JQ _ _ ZS.1.ak (nX P hb)) f.st (by omega) Fd (by omega) Km).P ?_;rintro e w4⟨m2,H2,rfl,JW,Kq,J4,J0,L⟩;have KO:=ae JW;have Ky:=ae Kq;have Kx:=ae J4;have KN:=ae (f.co.step J0);have O4:=ae L;obtain⟨cs3,bt⟩:=Kw.i;have Ke:=ae (ZS.1.ac bt (by decide) (nX P hb) L);have KU:=ae (ZS.2.1.ac bt (by decide) L);have Bk:=ae (TK.ac L (by omega));have KH:=ae (L.ty _ _ _ bt);have K4:=ae ((f.kx.k ZS.2.2.1 (λi hi h=>by rcases h with h|h;exact h;exact absurd (f.vn i h) (by omega))).k (KX.of_only (X:=λi=>i=b) L rfl ZS.1.lt (nX P hb)) (λi hi h=>by have e2:i=b:=h;omega));have Kz:Hid (∀k,v'.ownBlock=Q k->A (z w)<=k):=λk hk=>by
     rcases ZS.2.2.2 k hk with h|h
     ·exact f.vn k h
     ·exact nX f.kx.aa.size h
    clear JW Kq J4 J0 L bt;obtain⟨ul,u0,u1,u2,u3,u4,u5,uf⟩:=Bk.y;obtain⟨uf0,uf1,uf2,uf3,uf4,uf5⟩:=al6 uf;clear uf;obtain⟨g,rfl⟩:∃g,gk=g+1:=⟨gk - 1,by omega⟩
    have KT:=ae (Bk.put m2.t);have OP:Hid (zt tb w4 (fY w4 tb m2.t)):=vf m2.t;have Kd:A (z w0)<=tb:=nX P Kt;have ZT:∀r:aD,(p++[r]).length=B p+1:=λr=>by simp
    have KI:Hid (RI w0 S mb mp (Z a0 S.n0 c0) (Z a1 S.n1 c1) w n y_ q tg nm b (Z (Q (T ZP R Y)) (S.f1 tg).h j_) tb o G0 V0 R0 (fY w4 tb m2.t) (p++[_]) (ZO++[_]) _ _ _ _ _ v' m2 H2):=
     ⟨Ke.ac Bk (by decide) Kd OP,Kp,Fk,(by rw[ZT,show 201 - (B p+1)=200 - (B p) by omega];exact Kh),KU.ac Bk (by decide) OP,KO.boxed (by omega) m2.t,(by obtain⟨D,Z8⟩:=KH.i;exact⟨D,(OP.p b (ah Z8) (by omega)).k Z8⟩),KT,Ky,(by rw[ZT];exact Kx),KN,(by rw[ZT,show 201 - (B p+1)=200 - (B p) by omega];exact NX),(by rw[ZT];omega),Kf,K4.k (KX.of_only (X:=λi=>i=tb) OP rfl Ke.lt Kd) (λi hi h=>by have e2:i=tb:=h;omega),Kz⟩
    simp only[Turn.v];go_wp2;go_roundg g;case measure=>omega
    case rel=>exact⟨_,_,_,_,_,_,_,_,_,_,KI,by rw[ZT];omega⟩
end
structure KS (Z8:Nat)(X:Nat->Prop)(w w':E):Prop where
 aa:Below Z8 w w'
 ad:∀i cs t fz,w.heap[i]?=Q (N cs t fz)->t≠9->t≠188->t≠141->¬ X i->w'.heap[i]?=w.heap[i]?
def KS.k{ZM:Nat->Prop}{b:E}(h:KS Z8 X w w')(k:KS Z8 ZM w' b)(g:∀i,i<A (z w)->ZM i->X i):KS Z8 X w b:=
 ⟨h.aa.k k.aa,λi f t fz hi h1 h2 j hX=>by
  have e:=h.ad i f t fz hi h1 h2 j hX;rw[<-e]
  exact k.ad i f t fz (e.k hi) h1 h2 j λl=>hX (g i (ah hi) l)⟩
def KS.to{b:E}(h:KS Z8 X w w')(k:KS Z8 XN w' b):KS Z8 X w b:=h.k k λ_ _ h=>h.elim
def KS.l (h:Below C w w')(b:A (z w)<=C)(f:Z8<=A (z w)):KS Z8 X w w':=
 ⟨h.P (nX f b),λi _ _ _ hi _ _ _ _=>h.p i (lj (ah hi) b)⟩
def KS.of_grown{row:Option Nat}(h:w.grownBy w' row)(n:Z8<=A (z w))(g:∀j,row=Q j->Z8<=j/\(X j\/∀b t fz,w.heap[j]?=Q (N b t fz)->t=9\/t=188\/t=141)):KS Z8 X w w':=by
 refine⟨⟨h.os,h.tape,h.output,h.size,λk l=>h.p k (lj l n) λe=>?_⟩,λi b t fz hi h1 h2 m hX=>h.p i (ah hi) λe=>?_⟩;{have:=(g k e.c).1;omega};{rcases(g i e.c).2 with f|f;{exact hX f};{rcases f b t fz hi with e|e|e;{exact h1 e};{exact h2 e};{exact m e}}}
def KS.setCell (w:E){j:Nat}(hb:Z8<=b)(f:X b\/∀g t fz,w.heap[b]?=Q (N g t fz)->t=9\/t=188\/t=141)(v:ZB):KS Z8 X w (w.setCell (T b j Y) v):=by
 refine⟨(a8 Z8 w).setCell hb v,λi g t fz hi h1 h2 h hX=>?_⟩;refine qh _ _ _ _ λe=>?_;simp at e;subst e;rcases f with f|f;{exact hX f};{rcases f g t fz hi with e|e|e;{exact h1 e};{exact h2 e};{exact h e}}
def ShBox (w:E)(hb:Nat)(s0 s1 md or st:ZB)(f:Int)(sx:F_)(g:ZB)(b:Bool):Prop:=w.heap[hb]?=Q (N #[s0,s1,md,or,st,J I f,U sx,g,ZF b] 141 (0,0))
def ShBox.y{s0 s1 st g:ZB}{f:Int}{b:Bool}(h:ShBox w hb s0 s1 md or st f sx g b):hb<A (z w)/\ZV w (T hb 0 Y)=Q s0/\ZV w (T hb 1 Y)=Q s1/\ZV w (T hb 2 Y)=Q md/\ZV w (T hb 3 Y)=Q or/\ZV w (T hb 4 Y)=Q st/\ZV w (T hb 5 Y)=Q (J I f)/\ZV w (T hb 6 Y)=Q (U sx)/\ZV w (T hb 7 Y)=Q g/\ZV w (T hb 8 Y)=Q (ZF b)/\∀j,ZW w (T hb j Y)=ZA:=by unfold ShBox at h;refine⟨ah h,?_,?_,?_,?_,?_,?_,?_,?_,?_,λj=>?_⟩;all_goals simp[World.cell?,World.frozen?,h]
def ShBox.ad{s0 s1 st g:ZB}{f:Int}{b:Bool}(h:ShBox w hb s0 s1 md or st f sx g b)(i:w'.heap[hb]?=w.heap[hb]?):ShBox w' hb s0 s1 md or st f sx g b:=i.k h
structure SM where
 e:F_
 M:Int
 H:F_
 V:List Lk
 sv:ZB
 done:Bool
def smV (m:SM):List ZB:=[U m.e,J I m.M,U m.H,Z Y 0 0,m.sv,ZF m.done]
def eG (b:List Lk):List ZB:=b.flatMap λl=>[U l.e,ZF l.ask,ZF l.has]
def fI (L:List SM)(t:F_):Option Nat:=L.findIdx? λm=>m.e.toList == t.toList
structure fM (L:List SM)(y_:List F_)(q_:List k_):Prop where
 nod:L.Pairwise λm m'=>m.e≠m'.e
 len:B L=B q_+B y_
 got:∀x∈q_,∃m∈L,m.e=x.e/\m.done=ZH/\m.M=(dt x).M/\m.H=(dt x).H/\m.V=x.D
 mkg:∀t∈y_,∃m∈L,m.e=t/\m.done=ZA
 all:∀m∈L,(∃x∈q_,x.e=m.e)\/m.e∈y_
structure SI (w0:E)(hb:Nat)(s0 s1:ZB)(w:E)(y_:List F_)(q_:List k_)(L:List SM)(md or st:ZB):Prop where
 ak:Below (A (z w0)) w0 w
 hbB:A (z w0)<=hb
 ab:ShBox w hb s0 s1 md or st 0 ⟨#[]⟩ (Z Y 0 0) ZA
 X:ZX w (A (z w0)) 188 6 md (B L) (L.flatMap smV)
 ror:ZX w (A (z w0)) 9 1 or (B q_) (bO (q_.map (·.e)))
 rst:ZX w (A (z w0)) 9 1 st (B y_) (bO y_)
 apart:∀k,or.ownBlock=Q k->st.ownBlock≠Q k
 V:∀m∈L,m.done=ZH->ZX w (A (z w0)) 191 3 m.sv (B m.V) (eG m.V)
section
variable {w0 w w':E}{hb:Nat}{s0 s1 md or st:ZB}{y_:List F_}{q_:List k_}{L:List SM}
def SI.lt (h:SI w0 hb s0 s1 w y_ q_ L md or st):A (z w0)<=A (z w):=h.ak.size
def SI.aa (h:SI w0 hb s0 s1 w y_ q_ L md or st)(b:Below C w w')(f:A (z w)<=C):SI w0 hb s0 s1 w' y_ q_ L md or st:=
 ⟨h.ak.k (b.P (nX h.lt f)),h.hbB,h.ab.ad (b.p _ (lj (ah h.ab) f)),K_ h.X b f,K_ h.ror b f,K_ h.rst b f,h.apart,λm g i=>K_ (h.V m g i) b f⟩
end
def eh:Option Nat->Int
 |some i=>(i:Int)
 |none=>-1
def ja (g:B_)(n:Nat)(t:F_):aF g n t=(atI g n t).isSome:=by unfold aF atI;rw[OJ,List.find?_isSome,TI]
def vV{g:B_}{t:F_}(h:aF g n t=ZA):atI g n t=Y:=by rw[ja] at h;exact Option.isNone_iff_eq_none.1 (by simpa using h)
def sZ{g:B_}{k:Nat}{t:F_}(f:k<n)(h1:((g k).toList == t.toList)=ZH)(h2:aF g k t=ZA):atI g n t=Q k:=by
 unfold atI;rw[List.find?_range_eq_some];refine⟨h1,IH.2 f,λj b=>?_⟩;cases e:((g j).toList == t.toList) with
 |false=>rfl
 |true =>rw[eO b e] at h2;cases h2
def rP (b off n0 c0:Nat)(a1:O_)(n1 c1:Nat)(f:Nat->Source)(t:F_)(w:E)(hn:(n0:Int)<=1048576)(o:RowSource w b off n0 f):Calls Pg 27 #[ZJ #[Z (Q (T b off Y)) n0 c0,Z a1 n1 c1],U t] w λe w'=>e=ZI (J I (eh (atI (nm0 f) n0 t)))/\Below (A (z w)) w w':=by
 obtain⟨W,g⟩:∃W:E,ZU w (N #[Z (Q (T b off Y)) n0 c0,Z a1 n1 c1] 29)=W:=⟨_,rfl⟩
 obtain⟨l,-,-⟩:=nb1 g;have h:=ae g;clear g;have q:=ae (o.aa l ly);have k1:ZV W (T (A (z w)) 0 Y)=Q (Z (Q (T b off Y)) n0 c0):=by rw[<-h.i];simp
 clear o;obtain⟨R,hR⟩:∃R,R=eh (atI (nm0 f) n0 t):=⟨_,rfl⟩
 rw[<-hR];have p:=ae hR;clear hR;go_enter WV,VT;go_wp2;rw[h.i];clear h;go_loop [5] (λi=>∃k:Nat,k<=n0/\i=J I k/\Hid (aF (nm0 f) k t=ZA)) (λi=>n0 - (intOf i).toNat);case atStart=>exact⟨0,by omega,rfl,rfl⟩
 case round =>
  obtain⟨k,hk,rfl,n⟩:=hrel;by_cases j:k<n0
  ·obtain⟨d0,d1⟩:=q.2 k j;cases hb:((f k).e.toList == t.toList) with
   |true =>have m:=ae hb;go_wp2;go_ret;exact⟨by rw[p.i,sZ j m.i n.i];rfl,l⟩
   |false =>have m:=ae hb;go_wp2;exact⟨⟨k+1,by omega,by go_num,by show aF (nm0 f) (k+1) t=ZA;rw[gI,n.i];exact m⟩,by simp[intOf];omega⟩
  ·have e:k=n0:=by omega
   subst e;go_wp2;go_ret;exact⟨by rw[p.i,vV n.i];rfl,l⟩
def rQ (a0:O_)(c0:Nat)(a1:O_)(n1 c1:Nat)(t:F_)(w:E):Calls Pg 27 #[ZJ #[Z a0 0 c0,Z a1 n1 c1],U t] w λe w'=>e=ZI (J I (-1))/\Below (A (z w)) w w':=by
 have b:=ae ((BS w).alloc ly (N #[Z a0 0 c0,Z a1 n1 c1] 29));go_enter WV,VT;go_wp2;go_loop [5] (λi=>i=J I 0) (λ_=>0);case atStart=>rfl
 case round =>subst hrel;go_wp2;go_ret;exact⟨rfl,b⟩
def iP (a0:O_)(n0 c0:Nat)(a1:O_)(n1 c1:Nat)(f:Nat->Source)(t:F_)(w:E)(hn:(n0:Int)<=1048576)(g:Qy w a0 n0 f):Calls Pg 27 #[ZJ #[Z a0 n0 c0,Z a1 n1 c1],U t] w λe w'=>e=ZI (J I (eh (atI (nm0 f) n0 t)))/\Below (A (z w)) w w':=by
 rcases g with rfl|⟨b,off,rfl,h⟩
 {exact rQ a0 c0 a1 n1 c1 t w};{exact rP b off n0 c0 a1 n1 c1 f t w hn h}
def rR (a0:O_)(n0 c0 b off n1 c1:Nat)(f:Nat->Target)(t:F_)(w:E)(hn:(n1:Int)<=1048576)(o:RowTarget w b off n1 f):Calls Pg 28 #[ZJ #[Z a0 n0 c0,Z (Q (T b off Y)) n1 c1],U t] w λe w'=>e=ZI (J I (eh (atI (nm1 f) n1 t)))/\Below (A (z w)) w w':=by
 obtain⟨W,g⟩:∃W:E,ZU w (N #[Z a0 n0 c0,Z (Q (T b off Y)) n1 c1] 29)=W:=⟨_,rfl⟩
 obtain⟨l,-,-⟩:=nb1 g;have h:=ae g;clear g;have q:=ae (o.aa l ly);have k1:ZV W (T (A (z w)) 1 Y)=Q (Z (Q (T b off Y)) n1 c1):=by rw[<-h.i];simp
 clear o;obtain⟨R,hR⟩:∃R,R=eh (atI (nm1 f) n1 t):=⟨_,rfl⟩
 rw[<-hR];have p:=ae hR;clear hR;go_enter WU,VR;go_wp2;rw[h.i];clear h;go_loop [5] (λi=>∃k:Nat,k<=n1/\i=J I k/\Hid (aF (nm1 f) k t=ZA)) (λi=>n1 - (intOf i).toNat);case atStart=>exact⟨0,by omega,rfl,rfl⟩
 case round =>
  obtain⟨k,hk,rfl,n⟩:=hrel;by_cases j:k<n1
  ·obtain⟨d0,ka,kc,d1,_⟩:=q.2 k j;cases hb:((f k).e.toList == t.toList) with
   |true =>have m:=ae hb;go_wp2;go_ret;exact⟨by rw[p.i,sZ j m.i n.i];rfl,l⟩
   |false =>have m:=ae hb;go_wp2;exact⟨⟨k+1,by omega,by go_num,by show aF (nm1 f) (k+1) t=ZA;rw[gI,n.i];exact m⟩,by simp[intOf];omega⟩
  ·have e:k=n1:=by omega
   subst e;go_wp2;go_ret;exact⟨by rw[p.i,vV n.i];rfl,l⟩
def rS (a0:O_)(n0 c0:Nat)(a1:O_)(c1:Nat)(t:F_)(w:E):Calls Pg 28 #[ZJ #[Z a0 n0 c0,Z a1 0 c1],U t] w λe w'=>e=ZI (J I (-1))/\Below (A (z w)) w w':=by
 have b:=ae ((BS w).alloc ly (N #[Z a0 n0 c0,Z a1 0 c1] 29));go_enter WU,VR;go_wp2;go_loop [5] (λi=>i=J I 0) (λ_=>0);case atStart=>rfl
 case round =>subst hrel;go_wp2;go_ret;exact⟨rfl,b⟩
def iQ (a0:O_)(n0 c0:Nat)(a1:O_)(n1 c1:Nat)(f:Nat->Target)(t:F_)(w:E)(hn:(n1:Int)<=1048576)(g:Qx w a1 n1 f):Calls Pg 28 #[ZJ #[Z a0 n0 c0,Z a1 n1 c1],U t] w λe w'=>e=ZI (J I (eh (atI (nm1 f) n1 t)))/\Below (A (z w)) w w':=by
 rcases g with rfl|⟨b,off,rfl,h⟩
 {exact rS a0 n0 c0 a1 c1 t w};{exact rR a0 n0 c0 b off n1 c1 f t w hn h}
def oG (m:SM):(smV m).length=6:=rfl
def cJ{j_:Nat}{L:List SM}(h:ZX w b 188 6 (Z (Q (T g 0 Y)) (B L) j_) (B L) (L.flatMap smV)){m:SM}(f:L[i]?=Q m)(j:Nat)(n:j<6){u:ZB}(l:(smV m)[j]?=Q u):ZV w (T g (i*6+j) Y)=Q u:=by have h1:=h.cells (g:=g) rfl (i*6+j) u (by rw[cT smV 6 oG L i j n m f];exact l);rw[addr_add,I5] at h1;exact h1
def vW{L:List SM}{k:Nat}{t:F_}{m:SM}(b:L[k]?=Q m)(h1:(m.e.toList == t.toList)=ZH)(h2:∀(j:Nat) (m:SM),j<k->L[j]?=Q m->(m.e.toList == t.toList)=ZA):fI L t=Q k:=by have g:=(j5.1 b).1;have f:=(j5.1 b).2;unfold fI;rw[SH];refine⟨g,by rw[f];exact h1,λj h=>?_⟩;rw[TJ];exact h2 j _ h (gq (by omega))
def yB{L:List SM}{t:F_}(h2:∀(j:Nat) (m:SM),j<B L->L[j]?=Q m->(m.e.toList == t.toList)=ZA):fI L t=Y:=by unfold fI;rw[SJ];intro m f;obtain⟨j,b⟩:=PE f;exact h2 j m (j5.1 b).1 b
section
variable {w0:E}{hb:Nat}{s0 s1 md or st:ZB}{y_:List F_}{q_:List k_}{L:List SM}
def vX (w:E)(t:F_)(s:Nat)(c2:ZV w (T hb 2 Y)=Q md)(b:ZX w s 188 6 md (B L) (L.flatMap smV))(hL:B L<=100000):Calls Pg 121 #[.pointer (Q (T hb 0 Y)),U t] w λe w'=>e=ZI (J I (eh (fI L t)))/\w'=w:=by
 obtain⟨R,hR⟩:∃R,R=eh (fI L t):=⟨_,rfl⟩
 rw[<-hR];have x:=ae hR;have o:=ae b;obtain⟨a,c,rfl⟩:∃a c,md=Z a (B L) c:=by
  obtain⟨_,⟨rfl,e⟩|⟨g,j_,y,rfl,_⟩⟩:=b;{exact⟨Y,0,by rw[e]⟩};{exact⟨_,_,rfl⟩}
 obtain⟨n,hn⟩:∃n,n=B L:=⟨_,rfl⟩
 have r:=ae hn;rw[<-hn] at c2 hL;clear b hR hn;go_enter func121,ntmps121;go_wp2;go_loop [5] (λi=>∃k:Nat,k<=n/\i=J I k/\Hid (∀(j:Nat) (m:SM),j<k->L[j]?=Q m->(m.e.toList == t.toList)=ZA)) (λi=>n - (intOf i).toNat);case atStart=>exact⟨0,by omega,rfl,λj m p=>absurd p (NF _)⟩
 case round =>
  obtain⟨k,hk,rfl,q⟩:=hrel;by_cases hlt:k<n
  ·obtain⟨m,f⟩:∃m,L[k]?=Q m:=⟨_,gq (by have:=r.i;omega)⟩
   obtain⟨g,j_,y,e,-⟩:=o.2.resolve_left (λh=>by have:=r.i;omega);simp only[IS,TX] at e;obtain⟨rfl,rfl⟩:=e;have d0:ZV w (T g (k*6) Y)=Q (U m.e):=cJ o f 0 (by omega) rfl;have ZZ:=ae f;have hI:(k:Int)<(n:Int):=by omega
   clear f;cases hb2:(m.e.toList == t.toList) with
   |true =>have u:=ae hb2;go_wp2;go_ret;exact⟨by rw[x.i,vW ZZ.i u.i q.i];rfl,rfl⟩
   |false =>
    have u:=ae hb2;go_wp2;refine⟨⟨k+1,by omega,by go_num,λj ZY p l=>?_⟩,by simp[intOf];omega⟩;by_cases e:j=k;{subst e;rw[ZZ.i] at l;cases l;exact u};{exact q j ZY (by omega) l}
  ·have e:k=n:=by omega
   subst e;go_wp2;go_ret;exact⟨by rw[x.i,yB (λj m p f=>q.i j m (by have:=r.i;omega) f)];rfl,rfl⟩
def pI (w:E)(t:F_)(h:SI w0 hb s0 s1 w y_ q_ L md or st)(hL:B L<=100000):Calls Pg 121 #[.pointer (Q (T hb 0 Y)),U t] w λe w'=>e=ZI (J I (eh (fI L t)))/\w'=w:=by obtain⟨-,-,-,c2,-⟩:=h.ab.y;exact vX w t (A (z w0)) c2 h.X hL
end
structure pJ (w0:E)(S:J_)(a0:O_)(a1:O_):Prop where
 src:Qy w0 a0 S.n0 S.f0
 w:Qx w0 a1 S.n1 S.f1
 ok:SpcOk S
def jb (w0:E)(hb:Nat)(w':E)(r:jj)(b:ZB):Prop:=∃s0 s1 md or st,ShBox w' hb s0 s1 md or st r.M r.H b ZH/\ZX w' (A (z w0)) 9 1 b (B r.R) (bO r.R)
structure LExt (n:Nat)(L L':List SM):Prop where
 nam:∀(i:Nat) (m:SM),L[i]?=Q m->∃m':SM,L'[i]?=Q m'/\m'.e=m.e
 sn:∀m∈L',m.done=ZH->(∃m0∈L,m0.done=ZH/\m0.sv=m.sv)\/∀k,m.sv.ownBlock=Q k->n<=k
def LExt.refl (n:Nat)(L:List SM):LExt n L L:=⟨λ_ m h=>⟨m,h,rfl⟩,λm f b=>.inl ⟨m,f,b,rfl⟩⟩
def LExt.k{r:Nat}{L p b:List SM}(h:LExt n L p)(k:LExt r p b)(hn:n<=r):LExt n L b:=by
 refine⟨λi m j=>?_,λm j t=>?_⟩;{obtain⟨l,h1,g⟩:=h.nam i m j;obtain⟨s,h2,x⟩:=k.nam i l h1;exact⟨s,h2,x.k g⟩};{rcases k.sn m j t with⟨m0,u,q,e⟩|h1;{rcases h.sn m0 u q with⟨l,h1,o,g⟩|h1;{exact .inl ⟨l,h1,o,g.k e⟩};{exact .inr λk f=>h1 k (by rw[e];exact f)}};{exact .inr λk f=>nX hn (h1 k f)}}
def jx (c:List F_):jj:=⟨6,⟨#[]⟩,c⟩
def jy (d:F_):jj:=⟨7,d,[]⟩
def jl (r:jj)(b:ZB):ZB:=ZJ #[J I r.M,U r.H,b]
def mF (w0:E)(hb:Nat)(s0 s1:ZB)(y_:List F_)(L:List SM)(w:E)(e:Ending)(w':E):Out k_->Prop
 |.inl (made',x)=>∃b g h f,e=ZI (ZJ #[J I (dt x).M,U (dt x).H,Z Y 0 0])/\SI w0 hb s0 s1 w' y_ made' b g h f/\fM b y_ made'/\LExt (A (z w)) L b/\KS (A (z w0)) XN w w'
 |.inr (.inl c)=>∃a k,e=ZI (jl (jx c) (Z a (B c) k))/\jb w0 hb w' (jx c) (Z a (B c) k)/\KS (A (z w0)) XN w w'
 |.inr (.inr d)=>e=ZI (jl (jy d) (Z Y 0 0))/\jb w0 hb w' (jy d) (Z Y 0 0)/\KS (A (z w0)) XN w w'
def fm (S:J_)(y_:List F_)(q_:List k_)(k:Nat):Prop:=B q_+201*dU S y_ q_+k<=50000
def MT (S:J_)(y_:List F_):Prop:=∀t∈y_,(atI (nm1 S.f1) S.n1 t).isSome=ZH
def oe (w0:E)(S:J_)(hb:Nat)(s0 s1:ZB)(n:Nat):Prop:=∀y_ q_ L md or st w nm,B y_+n=60->SI w0 hb s0 s1 w y_ q_ L md or st->fM L y_ q_->PG S y_ q_->fm S y_ q_ 1->MT S y_->aA nm=ZH ->
 Calls Pg 120 #[.pointer (Q (T hb 0 Y)),U nm] w λe w'=>mF w0 hb s0 s1 y_ L w e w' (aT S n y_ q_ nm)
def lE{a:Nat}(h:(Pg.info? e).map (λi=>(i.zero,i.size,i.bytes))=Q (Q ZZ,a,b)):∃i,Pg.info? e=Q i/\i.zero=Q ZZ/\i.size=a/\i.bytes=b:=by
 cases hi:Pg.info? e with
 |none=>rw[hi] at h;cases h
 |some i =>rw[hi] at h;simp only[U7,ND,LK] at h;exact⟨i,rfl,h⟩
def pK:(Pg.info? 9).map (λi=>(i.zero,i.size,i.bytes))=Q (Q (U ⟨#[]⟩),1,16):=by kernel_rfl
def An:(Pg.info? 119).map (λi=>(i.zero,i.size,i.bytes))=Q (Q (ZJ #[ZF ZA,J I 0,U ⟨#[]⟩]),3,32):=by kernel_rfl
def FW:(Pg.info? 191).map (λi=>(i.zero,i.size,i.bytes))=Q (Q (ZJ #[U ⟨#[]⟩,ZF ZA,ZF ZA]),3,24):=by kernel_rfl
def FX:(Pg.info? 188).map (λi=>(i.zero,i.size,i.bytes))=Q (Q (ZJ #[U ⟨#[]⟩,J I 0,U ⟨#[]⟩,Z Y 0 0,Z Y 0 0,ZF ZA]),6,96):=by kernel_rfl
def mG (b:List aD):List ZB:=b.flatMap λr=>[ZF r.has,J I r.M,U r.H]
def FY (b:List aD)(r:aD):mG (b++[r])=mG b++[ZF r.has,J I r.M,U r.H]:=by simp[mG]
def CF (b:List Lk)(l:Lk):eG (b++[l])=eG b++[U l.e,ZF l.ask,ZF l.has]:=by simp[eG]
def Ih{l c:Nat}{b:List aD}(h:ZX w l 119 3 (Z (Q (T g 0 Y)) (B b) c) (B b) (mG b)):RowReply w g 0 (B b) (yL b):=by
 obtain⟨_,n,cs,hc⟩:=af h g rfl;refine⟨n,λi hi=>?_⟩;have m:b[i]?=Q (yL b i):=by simp[yL,gq hi]
 have f:∀j u,j<3->([Value.bool (yL b i).has,J I (yL b i).M,U (yL b i).H]:List ZB)[j]?=Q u->ZV w (T g (i*3+j) Y)=Q u:=λj u p o=>by have h1:=h.cells (g:=g) rfl (i*3+j) u (by rw[mG,cT (λr:aD=>[ZF r.has,J I r.M,U r.H]) 3 (λ_=>rfl) b i j p _ m];exact o);rw[addr_add,I5] at h1;exact h1
 refine⟨?_,?_,?_⟩;{rw[I5];exact f 0 _ (by omega) rfl};{rw[I5];exact f 1 _ (by omega) rfl};{rw[I5];exact f 2 _ (by omega) rfl}
def oH (w:E)(e:ZK)(size:Nat):(ZU w (N #[] e)).ownsRow (A (z w)) e size (Z (Q (T (A (z w)) 0 Y)) 0 0) 0 []:=
 ⟨by simp,.inr ⟨A (z w),0,#[],rfl,p7 _,gM _ _,p7 _,DW _,by simp,by simp⟩⟩
def CH (g:SpcOk S)(j:tg<S.n1){b:List aD}(f:∀y∈b,cI y=ZH)(hl:B b<=200):oB (S.f1 tg).q (S.f1 tg).h (yL b) (B b)=bK S tg b:=by
 unfold oB;have h:bU (yL b) (B b)=ZH:=by
  have:∀k,bU (yL b) k=ZH:=λk=>by
   induction k with
   |zero=>rfl
   |succ k i=>rw[bU,i,GK f k];rfl
  exact this _
 rw[eI (by rw[g.q tg j];simp),eI (by omega),eI (by rw[h];simp)];rfl
def FZ (b:SpcOk S)(f:tg<S.n1):∀i,i<(S.f1 tg).h->((S.f1 tg).q i).s.size<=maxLen:=λi hi=>by
 have h1:=j7 (bJ (b.q tg f)).1 hi;simp only[cL,nD] at h1;obtain⟨i1,i2,i3,i4,i5⟩:=h1;have hmt2:bW ((S.f1 tg).q i).op<=2000:=by unfold bW;split<;>omega
 unfold maxLen;omega
section
variable {w0:E}{S:J_}{a0 a1:O_}{c0 c1 hb:Nat}{md or st:ZB}{y_:List F_}{q_:List k_}{L:List SM}
def pL (C:pJ w0 S a0 a1)(w:E)(t:F_)(g:Below (A (z w0)) w0 w)(q:hb<A (z w))(m:ZV w (T hb 0 Y)=Q (Z a0 S.n0 c0))(l:ZV w (T hb 1 Y)=Q (Z a1 S.n1 c1)):Calls Pg 179 #[.pointer (Q (T hb 0 Y)),U t] w λe w'=>e=ZI (ZF (fL S t))/\Below (A (z w)) w w':=by
 have s:=ae C;have n:=ae g;have hsm:=C.ok.bb;obtain⟨R,hR⟩:∃R,R=fL S t:=⟨_,rfl⟩
 rw[<-hR];have o:Hid (R=((atI (nm0 S.f0) S.n0 t).isSome || (atI (nm1 S.f1) S.n1 t).isSome)):=by show _=_;rw[hR];unfold fL;rw[ja,ja]
 clear C g hR;go_enter func179,ntmps179;go_wp2_with fail;refine(iP a0 S.n0 c0 a1 S.n1 c1 S.f0 t w (by omega) (s.src.aa n ly)).P ?_;rintro e x⟨rfl,b⟩;have y:=(b.O (p:=(T hb 0 Y)) q).k m;have ZZ:=(b.O (p:=(T hb 1 Y)) q).k l;have hl1:hb<A (z x):=lj q b.size;have h:=ae b;clear b m l;cases h0:atI (nm0 S.f0) S.n0 t with
 |some i =>
  have j:=ae h0;clear h0;have u:(0:Int)<=(i:Int):=by omega
  simp only[eh];go_wp2;go_ret;exact⟨by rw[o.i,j.i];rfl,h⟩
 |none =>
  have j:=ae h0;clear h0;simp only[eh];go_wp2_with fail;refine(iQ a0 S.n0 c0 a1 S.n1 c1 S.f1 t x (by omega) (s.w.aa (n.k (h.P n.size)) ly)).P ?_;rintro e w2⟨rfl,b⟩;have r:=ae (h.k (b.P h.size));clear b y ZZ;cases h1:atI (nm1 S.f1) S.n1 t with
  |some i =>
   have f:=ae h1;clear h1;have u:(0:Int)<=(i:Int):=by omega
   simp only[eh];go_wp2;go_ret;exact⟨by rw[o.i,j.i,f.i];simp,r⟩
  |none =>have f:=ae h1;clear h1;simp only[eh];go_wp2;go_ret;exact⟨by rw[o.i,j.i,f.i];rfl,r⟩
end
