import Derived.Test.YtcnilonhfpimnaaGreatDoorEJ
import Derived.Test.YtcnilonhfpimnaaGreatDoorFS
set_option linter.all false
set_option maxRecDepth 1000000
set_option maxHeartbeats 8000000
open Go renaming Addr.mk->T,Value.slice->Y,Value.string->U,Value.int->J,Value.bool->ZF,Value.agg->ZJ,Obj.cells->N,IntKind.i64->I,World->E,Value->ZB,TypeId->ZK,Ending.returned->ZI,World.heap->z,World.ownsRow->ZY,World.alloc->ZV,World.cell?->ZW,World.frozen?->ZX,World.setCell->ZU,Proofs.Tryz.prog->Pg,Act.put->p_,Calls->Qw
open Option renaming none->Z,some->Q
open Bool renaming false->ZA,true->ZH
open Array renaming size->A
open List renaming length->B
namespace Go.Proofs.YtcnilonhfpimnaaGreatDoor.Vp
open Tryz RowKit
variable {nm sx:F_}{b tg n g f Z9 C m p hb:Nat}{w w':E}{t e:ZK}{X:Nat->Prop}{G:F_->Nat}{q_ a:List k_}{x:k_}{S:xl}{mm y_:List F_}{Z8 v' md or:ZB}{i:List Lk}{o j:Array ZB}
def pH (w:E):(zeroValue 225).run Pg w=.ok (ZJ #[J I 0,.pointer Z]) w:=by kernel_rfl
def kq (q_:List k_)(nm:F_):q_.find? (λe=>e.e.toList == nm.toList)=aS q_ nm:=rfl
def sX{e:k_}(h:aS q_ nm=Q e):dK G mm q_ nm.toList=Q (ZJ #[J I 0,.pointer (Q (T (G e.e) 0 Z))]):=by unfold dK;rw[kq,h]
def iO (h:aS q_ nm=Z):dK G mm q_ nm.toList=(atL mm nm).map λ(i:Nat)=>ZJ #[J I (i:Int),.pointer Z]:=by unfold dK;rw[kq,h];rfl
section
variable {w0:E}{S:xl}{mb mp:Nat}{s0 s1 mk md:ZB}{mm y_:List F_}{q_:List k_}{G:F_->Nat}{V:F_->ZB}
def FM (w:E)(nm:F_)(h:MI w0 S mb mp s0 s1 w mm y_ q_ G V mk md)(hn:nm.size<=60)(e:k_)(b:aS q_ nm=Q e):Qw Pg 116 #[.pointer (Q (T mb 0 Z)),U nm] w λr w'=>r=ZI (.pointer (Q (T (G e.e) 0 Z)))/\Below (A (z w)) w w':=by
 have g:=ae (show(dK G mm q_ nm.toList).getD (ZJ #[J I 0,.pointer Z])=ZJ #[J I 0,.pointer (Q (T (G e.e) 0 Z))] by rw[sX b];rfl);have j:=ae (show(dK G mm q_ nm.toList).isSome=ZH by rw[sX b];rfl);have i:=ae h;obtain⟨hl,-,-,c2,-,-,-⟩:=h.ab.y;have f:nm.size<=maxLen:=by unfold maxLen;omega
 have hz:=pH;have l:=ae ((BS w).alloc ly (N #[J I 0,.pointer (Q (T (G e.e) 0 Z))] 225));clear h b;go_enter func116,ntmps116
 go_wp2_with (first
  |(at_lookup;refine jk _ rfl _ _ 178 rfl 225 TW (hz _) mp _ _ rfl i.map nm rfl f _ g ZH j ?_)
  |fail)
 go_ret;exact⟨rfl,l⟩
def xD (w:E)(nm:F_)(h:MI w0 S mb mp s0 s1 w y_ y_ q_ G V mk md)(hn:nm.size<=60)(hm:B y_<=60)(ZT:aS q_ nm=Z)(i:Nat)(hi:atL y_ nm=Q i):Qw Pg 116 #[.pointer (Q (T mb 0 Z)),U nm] w λr w'=>∃v,r=.panicked [{ v:=.iface 220 (ZJ #[v]),recovered:=ZA }]/\w'.ownsRow (A (z w)) 9 1 v (y_.drop i).length (bO (y_.drop i))/\Below (A (z w)) w w':=by
 have ZL:=ae (show(dK G y_ q_ nm.toList).getD (ZJ #[J I 0,.pointer Z])=ZJ #[J I (i:Int),.pointer Z] by rw[iO ZT,hi];rfl);have HF:=ae (show(dK G y_ q_ nm.toList).isSome=ZH by rw[iO ZT,hi];rfl);have ZM:=ae h;obtain⟨hl,-,-,c2,c3,-,-⟩:=h.ab.y;have ZP:i<B y_:=by unfold atL at hi;exact(List.findIdx?_eq_some_iff_findIdx_eq.1 hi).1
 obtain⟨g,j_,cur,rfl,hg1,ZZ,ZO,hg4,R,ZQ⟩:=h.rmk.2.resolve_left λh=>by omega
 have HC:=ae (h.rmk.cells (g:=g) rfl);have O:nm.size<=maxLen:=by unfold maxLen;omega
 have hz:=pH;obtain⟨q,l⟩:∃W:E,ZV w (N #[J I (i:Int),.pointer Z] 225)=W:=⟨_,rfl⟩
 obtain⟨m,-,-⟩:=nb1 l;have b:=ae l;clear l;have M:g<A (z w):=ah ZZ;obtain⟨n,u⟩:∃n,n=B y_:=⟨_,rfl⟩
 rw[<-u] at ZP hm c3 ZO;have Z9:=ae u;clear u;have t:=(m.O (p:=(T mb 3 Z)) hl).k c3;have ZS:ZW q (T (A (z w)) 0 Z)=Q (J I (i:Int)):=by rw[<-b.i];simp
 clear h ZT ZZ R ZQ hi;go_enter func116,ntmps116
 go_wp2_with (first
  |(at_lookup;refine jk _ rfl _ _ 178 rfl 225 TW (hz _) mp _ _ rfl ZM.map nm rfl O _ ZL ZH HF ?_)
  |fail)
 clear c2 c3;have P:A (z w)<A (z q):=by rw[<-b.i];simp
 rw[b.i];clear b;have hI0:(0:Int)<=(i:Int):=by omega
 have hI1:(i:Int)<=(n:Int):=by omega
 have hI2:(n:Int)<=(j_:Int):=by omega
 have hcl:¬ j_=i:=by omega
 have C:mb<A (z q):=by have:=m.size;omega
 have D:A (z w)<A (z q):=P;have L:Hid (∀W,Below (A (z w)) w W->∀j,j<(y_.drop i).length->ZW W (T g (i+j) Z)=Q (U ((y_.drop i).getD j ByteArray.empty))):=λW hW j hj=>by
  rw[NN] at hj
  have h1:=HC.i (i+j) (U ((y_.drop i).getD j ByteArray.empty)) (by
   rw[bO,LR,gq (by omega)]
   simp[CL,YJ,gq (show i+j<B y_ by omega)])
  exact(hW.O (p:=(T g (i+j) Z)) M).k (by rw[addr_add,IT] at h1;exact h1)
 refine wp_region_held_drew (S:=λV=>ZW V (T mb 3 Z)=Q (Y (Q (T g 0 Z)) n j_)/\ZW V (T (A (z w)) 0 Z)=Q (J I (i:Int))) (by as_aux_lemma=>kernel_rfl) ⟨t,ZS⟩ λZN=>?_;have y:=ae ZN;clear ZN;iterate 7
  first|refine aN 0 (v:=?_) rfl rfl (by as_aux_lemma=>kernel_rfl) (λ_ _ _ h=>h) rfl ?_ y ?_|refine aN 4 (v:=?_) rfl rfl (by as_aux_lemma=>kernel_rfl) (λ_ _ _ h=>h) rfl ?_ y ?_
  rotate_left
  ·(rintro X⟨s0,s1⟩;go_simp)
   (try with_reducible rfl)
  (try simp only[p_,z_])
 refine aL (i:=7) rfl (by as_aux_lemma=>kernel_rfl) λK ZR=>?_;go_simp;go_at_call 150;refine(Tryz.slices_Clone_string g i (n - i) (j_ - i) (y_.drop i) _ (by rw[NN,<-Z9.i];exact p7 _) (by omega) (L _ m.drew)).P ?_;rintro e H⟨v2,rfl,f,Z8,o⟩;have O2:=ae f;obtain⟨g2,cap2,cur2,rfl,q1,q2⟩:=f.2.resolve_left (λh=>Z8 h.1);have x:Hid (Below (A (z q)) q H):=⟨o.os,o.tape,o.output,o.size,o.p⟩
 clear f o q1 q2 Z8;refine ZR _ _ ⟨(x.O (p:=(T mb 3 Z)) C).k t,(x.O (p:=(T (A (z w)) 0 Z)) D).k ZS⟩ ?_;clear ZR K y;have y:Hid (ZW H (T mb 3 Z)=Q (Y (Q (T g 0 Z)) n j_)/\ZW H (T (A (z w)) 0 Z)=Q (J I (i:Int))):=⟨(x.O (p:=(T mb 3 Z)) C).k t,(x.O (p:=(T (A (z w)) 0 Z)) D).k ZS⟩
 (try simp only[p_,z_])
 iterate 2
  refine aN 8 (v:=?_) rfl rfl (by as_aux_lemma=>kernel_rfl) (λ_ _ _ h=>h) rfl ?_ y ?_;rotate_left
  ·(rintro X⟨s0,s1⟩;go_simp)
   (try with_reducible rfl)
  (try simp only[p_,z_])
 refine aL (i:=10) rfl (by as_aux_lemma=>kernel_rfl) λK ZR=>?_;go_simp;refine⟨rfl,_,rfl,?_,?_⟩
 ·have h1:=aE (base':=A (z w)) O2 m.size;have e1:(y_.drop i).length=n - i:=by rw[NN,<-Z9.i]
  rw[e1];rw[NU (by omega)] at h1;exact h1
 {exact m.k (x.P m.size)}
end
def mE {b:Type}(f:F_->b)(nm:F_)(v:b):F_->b:=λt=>if t.toList=nm.toList then v else f t
def ft{b:Type}(f:F_->b)(nm:F_)(v:b):mE f nm v nm=v:=eT rfl
def jw{b:Type}(f:F_->b){t:F_}(v:b)(h:t≠nm):mE f nm v t=f t:=eI λe=>h (fy e)
def Am (b:aS q_ nm=Z)(h1:atL y_ nm=Z)(s:List UInt8):(if s=nm.toList then Q (ZJ #[J I (B y_:Int),.pointer Z]) else dK G y_ q_ s)=dK G (y_++[nm]) q_ s:=by
 unfold dK;by_cases e:s=nm.toList;{subst e;rw[eT rfl,kq,b,UQ,show List.findIdx? (λx:F_=>x.toList == nm.toList) y_=Z from h1];simp[VE]}
 ·rw[eI e,UQ];have hn:(nm.toList == s)=ZA:=by simpa using λh=>e h.c
  cases q_.find? (λe=>e.e.toList == s) with
  |some x=>rfl
  |none=>simp[VE,hn]
def FO{b:F_->Nat}(m:aS q_ nm=Z)(g:x.e=nm)(j:∀y∈q_,b y.e=G y.e)(i:b nm=f)(l:mm=y_\/mm=y_++[nm])(s:List UInt8):(if s=nm.toList then Q (ZJ #[J I 0,.pointer (Q (T f 0 Z))]) else dK G mm q_ s)=dK b y_ (q_++[x]) s:=by
 unfold dK;rw[List.find?_append];by_cases e:s=nm.toList;{subst e;rw[eT rfl,kq,m];simp[g,i]}
 ·rw[eI e];have hn:(nm.toList == s)=ZA:=by simpa using λh=>e h.c
  cases hf:q_.find? (λe=>e.e.toList == s) with
  |some y =>simp only[Option.some_or];rw[j y (UY hf)]
  |none =>
   have h2:List.find? (λe:k_=>e.e.toList == s) [x]=Z:=by simp[g,hn]
   rw[h2];rcases l with rfl|rfl;{rfl};{simp[UQ,VE,hn]}
section
variable {w0 w:E}{S:xl}{mb mp:Nat}{s0 s1 mk md:ZB}{mm y_:List F_}{q_:List k_}{G:F_->Nat}{V:F_->ZB}
def EntAt.congr{f:F_->Nat}{v:ZB}(h:EntAt w0 S G w b v x)(g:∀l∈x.D,l.ask=ZH->f l.e=G l.e):EntAt w0 S f w b v x:=by obtain⟨h1,h2,i⟩:=h;refine⟨h1,h2,?_⟩;rw[oX g];exact i
def MIg.added{yh:Nat}{v:ZB}(h:MIg w0 S mb mp s0 s1 w yh (λs=>if s=nm.toList then Q (ZJ #[J I 0,.pointer (Q (T g 0 Z))]) else dK G mm q_ s) (B y_) (bO y_) (B q_+1) (jW G q_++[.pointer (Q (T g 0 Z))]) q_ G V mk md)(C:PG S y_ q_)(t:aS q_ nm=Z)(p:x.e=nm)
  (ZZ:mm=y_\/mm=y_++[nm]) (ZT:yh<=2*(B q_+1)+B y_) (u:EntAt w0 S G w g v x) (Z9:∀y∈q_,G y.e≠g) (m:∀l∈x.D,l.ask=ZH->∃y∈q_,y.e=l.e) :
  MI w0 S mb mp s0 s1 w y_ y_ (q_++[x]) (mE G nm g) (mE V nm v) mk md:=by
 have q:=dI t;have n:∀y∈q_,mE G nm g y.e=G y.e:=λy f=>jw _ _ (q y f);have D:∀y∈q_,mE V nm v y.e=V y.e:=λy f=>jw _ _ (q y f);have o:(q_++[x]).length=B q_+1:=by simp
 refine⟨h.ak,h.mbB,h.mpB,h.ab,h.rmk,?_,?_,λy f=>?_,?_⟩;{have e:jW (mE G nm g) (q_++[x])=jW G q_++[.pointer (Q (T g 0 Z))]:=(by simp only[jW,ND,T7,VN,p,ft];rw[XS λy f=>by rw[n y f]]);rw[e,o];exact h.X};{rw[o];exact(h.map.P ZT).congr λs=>FO t p n (ft _ _ _) ZZ s};{rcases p8.1 f with f|f;{rw[n y f,D y f];refine(h.W y f).congr λl o m=>?_;obtain⟨i,hi⟩:=PD f;obtain⟨j,Z8,_,hz,hn⟩:=C.ord i y hi l o m;rw[<-hn];exact n Z8 (I5 hz)};{rw[j4.1 f,p,ft,ft];refine u.congr λl o r=>?_;obtain⟨Z8,hz,hn⟩:=m l o r;rw[<-hn];exact n Z8 hz}};{rw[PC];refine⟨?_,VK _ _,λa m b hb=>?_⟩;{exact h.dist.imp_of_mem λ{a b} m hb h=>by rw[n a m,n b hb];exact h};{rw[j4.1 hb,p,ft,n a m];exact Z9 a m}}
structure Ext (n:Nat)(q_ made':List k_)(G G':F_->Nat)(V V':F_->ZB):Prop where
 pre:∃more,made'=q_++more
 same:∀x∈q_,G' x.e=G x.e/\V' x.e=V x.e
 new:∀x∈made',x∈q_\/(n<=G' x.e/\∀k,(V' x.e).ownBlock=Q k->n<=k)
def Ext.refl (n:Nat)(q_:List k_)(G:F_->Nat)(V:F_->ZB):Ext n q_ q_ G G V V:=⟨⟨[],by simp⟩,λ_ _=>⟨rfl,rfl⟩,λ_ h=>.inl h⟩
def Ext.mem{q_ b:List k_}{G g:F_->Nat}{V f:F_->ZB}(h:Ext n q_ b G g V f):∀x∈q_,x∈b:=by obtain⟨more,e⟩:=h.pre;intro x i;rw[e];exact NW _ i
def Ext.k{b c:List k_}{s r t:F_->Nat}{o l u:F_->ZB}(h:Ext n a b s r o l)(k:Ext m b c r t l u)(g:n<=m):Ext n a c s t o u:=by
 obtain⟨p,Z9⟩:=h.pre;obtain⟨q,y⟩:=k.pre;refine⟨⟨p++q,by rw[y,Z9,NP]⟩,λx f=>?_,λx f=>?_⟩;{obtain⟨Z8,C⟩:=h.same x f;obtain⟨i,j⟩:=k.same x (h.mem x f);exact⟨i.k Z8,j.k C⟩}
 ·rcases k.new x f with hb|⟨h1,h2⟩
  ·obtain⟨i,j⟩:=k.same x hb;rcases h.new x hb with ZZ|⟨h1,h2⟩
   {exact .inl ZZ};{exact .inr ⟨by rw[i];exact h1,by rw[j];exact h2⟩}
  {exact .inr ⟨nX g h1,λk D=>nX g (h2 k D)⟩}
def Ext.P{b:List k_}{g l:F_->Nat}{j i:F_->ZB}(h:Ext n a b g l j i)(f:m<=n):Ext m a b g l j i:=
 ⟨h.pre,h.same,λx o=>(h.new x o).imp id λ⟨h1,h2⟩=>⟨nX f h1,λk p=>nX f (h2 k p)⟩⟩
def Ie{q_:List k_}{v:ZB}(g:aS q_ nm=Z)(h:x.e=nm)(h1:n<=f)(h2:∀k,v.ownBlock=Q k->n<=k):Ext n q_ (q_++[x]) G (mE G nm f) V (mE V nm v):=by
 refine⟨⟨_,rfl⟩,λy b=>⟨jw _ _ (dI g y b),jw _ _ (dI g y b)⟩,λy b=>?_⟩;rcases p8.1 b with b|b;{exact .inl b};{rw[j4.1 b,h,ft,ft];exact .inr ⟨h1,h2⟩}
def EU.step{q:Nat}{m:List Lk}{v:ZB}{g:List k_}{o:F_->Nat}{t:F_->ZB}(h:EU w0 S w q nm tg G m v q_ V)(u:KX (A (z w0)) XN w w')(i:Ext (A (z w)) q_ g G o V t):EU w0 S w' q nm tg o m v g t:=by
 obtain⟨⟨a,j_,hb,j⟩,s,p,y,r,has⟩:=h;have Z8:∀l∈m,l.ask=ZH->o l.e=G l.e:=λl n j=>by obtain⟨x,b,e⟩:=has l n j;rw[<-e];exact(i.same x b).1
 have hebl:=ah hb;refine⟨⟨a,j_,(u.ad _ _ _ _ hb (by decide) (by decide) (by decide) λh=>h).k hb,j⟩,s,?_,λx b=>?_,λx b k f=>?_,λl n j=>?_⟩;{rw[oX Z8];refine b9 p λk f=>?_;obtain⟨_,_,cs,ZZ⟩:=af p k f;exact u.ad k _ _ _ ZZ (by decide) (by decide) (by decide) λh=>h}
 ·rcases i.new x b with b|⟨h1,_⟩
  {rw[(i.same x b).1];exact y x b};{omega}
 ·rcases i.new x b with b|⟨_,h1⟩
  {rw[(i.same x b).2];exact r x b k f};{intro e;have:=h1 k e;have:=(af p k f).2.1;omega}
 {obtain⟨x,b,e⟩:=has l n j;exact⟨x,i.mem x b,e⟩}
end
structure Ctx (w0:E)(S:xl)(a0:O_)(c0:Nat)(a1:O_)(c1:Nat):Prop where
 src:Qx w0 a0 S.n0 S.f0
 w:Qq w0 a1 S.n1 S.f1
 ok:SpcOk S
 tab:Tab2 w0
 pow:Pow w0
 sz:∀i,i<S.n0->(S.f0 i).H.size<=maxLen
def vT (w0:E)(S:xl)(mb mp:Nat)(s0 s1:ZB)(y_:List F_)(q_:List k_)(G:F_->Nat)(V:F_->ZB)(w:E)(e:Ending)(w':E):Out k_->Prop
 |.inl (made',x)=>∃b f g h,e=ZI (.pointer (Q (T (b x.e) 0 Z)))/\MI w0 S mb mp s0 s1 w' y_ y_ made' b f g h/\Ext (A (z w)) q_ made' G b V f/\KX (A (z w0)) XN w w'
 |.inr (.inl c)=>∃v,e=.panicked [{ v:=.iface 220 (ZJ #[v]),recovered:=ZA }]/\ZY w' (A (z w0)) 9 1 v (B c) (bO c)/\Below (A (z w0)) w w'
 |.inr (.inr d)=>e=.panicked [{ v:=.iface 222 (ZJ #[U d]),recovered:=ZA }]/\Below (A (z w0)) w w'
def eX (S:xl)(y_:List F_)(q_:List k_)(k:Nat):Prop:=B q_+201*dU S y_ q_+k<=50000
def jX (w0:E)(S:xl)(mb mp:Nat)(s0 s1:ZB)(n:Nat):Prop:=∀y_ q_ G V mk md w nm,B y_+n=60->MI w0 S mb mp s0 s1 w y_ y_ q_ G V mk md->PG S y_ q_->eX S y_ q_ 1->aA nm=ZH ->
 Qw Pg 116 #[.pointer (Q (T mb 0 Z)),U nm] w λe w'=>vT w0 S mb mp s0 s1 y_ q_ G V w e w' (aT S n y_ q_ nm)
def qP{a:Nat}(h:(Pg.info? e).map (λi=>(i.zero,i.size,i.bytes))=Q (Q Z8,a,b)):∃i,Pg.info? e=Q i/\i.zero=Q Z8/\i.size=a/\i.bytes=b:=by
 cases hi:Pg.info? e with
 |none=>rw[hi] at h;cases h
 |some i =>rw[hi] at h;simp only[U7,L8,LK] at h;exact⟨i,rfl,h⟩
def yx:(Pg.info? 184).map (λi=>(i.zero,i.size,i.bytes))=Q (Q (ZJ #[U ⟨#[]⟩,ZF ZA,ZF ZA,J I 0,.pointer Z]),5,40):=by kernel_rfl
def FP:(Pg.info? 9).map (λi=>(i.zero,i.size,i.bytes))=Q (Q (U ⟨#[]⟩),1,16):=by kernel_rfl
def FQ:(Pg.info? 131).map (λi=>(i.zero,i.size,i.bytes))=Q (Q (.pointer Z),1,8):=by kernel_rfl
abbrev vU (t:ZK):Prop:=t≠9/\t≠131/\t≠180/\t≠134/\t≠184
section
variable {w0 w:E}{S:xl}{mb mp:Nat}{s0 s1 mk md:ZB}{yh nk np:Nat}{F:List UInt8->Option ZB}{ks ps:List ZB}{q_:List k_}{G:F_->Nat}{V:F_->ZB}
def MIg.ag{l:Array ZB}{fz:Nat × Nat}(h:MIg w0 S mb mp s0 s1 w yh F nk ks np ps q_ G V mk md)(hb:w.heap[b]?=Q (N l t fz))(ZZ:vU t)(r:A (z w0)<=b)(j:Nat)(u:ZB):MIg w0 S mb mp s0 s1 (ZU w (T b j Z) u) yh F nk ks np ps q_ G V mk md:=by
 have D:KX (A (z w0)) (λi=>i=b) w (ZU w (T b j Z) u):=KX.setCell (X:=λi=>i=b) w r (Or.inl rfl) u;obtain⟨y,C,Z8,Z9,s⟩:=ZZ;refine h.kx D (λi o hi n=>qh _ _ _ _ λe=>n e) (λe=>?_) (λe=>?_) (λk f e=>?_) (λk f e=>?_) λx p=>⟨λe=>?_,λk f e=>?_⟩
 {subst e;exact Z8 (ar hb h.ab)};{obtain⟨es,c,q⟩:=h.map.isMap;rw[e,hb] at q;cases q};{subst e;obtain⟨_,_,l,g⟩:=af h.rmk _ f;exact y (ar hb g)};{subst e;obtain⟨_,_,l,g⟩:=af h.X _ f;exact C (ar hb g)};{obtain⟨act,m,_⟩:=(h.W x p).ad;rw[e] at m;exact Z9 (ar hb m)};{subst e;obtain⟨_,_,l,g⟩:=af (h.W x p).row _ f;exact s (ar hb g)}
def EU.ag{v:ZB}{fz:Nat × Nat}(h:EU w0 S w g nm tg G i v q_ V)(hb:w.heap[b]?=Q (N o t fz))(r:vU t)(j:Nat)(u:ZB):EU w0 S (ZU w (T b j Z) u) g nm tg G i v q_ V:=by
 obtain⟨⟨a,j_,f,q⟩,n,l,s,m,has⟩:=h;obtain⟨t1,t2,t3,x,p⟩:=r;refine⟨⟨a,j_,(qh _ _ _ _ λe=>?_).k f,q⟩,n,aB l (λe=>?_) _ _,s,m,has⟩;{simp at e;subst e;exact x (ar hb f)};{obtain⟨_,_,o,y⟩:=af l _ e;exact p (ar hb y)}
def EU.aa{g:List Lk}{v:ZB}(h:EU w0 S w f nm tg G g v q_ V)(hb:Below C w w')(i:A (z w)<=C):EU w0 S w' f nm tg G g v q_ V:=by obtain⟨⟨a,j_,b,n⟩,l,m,o,j,has⟩:=h;exact⟨⟨a,j_,(hb.p _ (lj (ah b) i)).k b,n⟩,l,J_ m hb i,o,j,has⟩
def EntBlk.y{text:F_}{kind code zd:Int}{act f:ZB}(h:EntBlk w b nm kind code text act f zd):b<A (z w)/\ZW w (T b 0 Z)=Q (U nm)/\ZW w (T b 1 Z)=Q (J I kind)/\ZW w (T b 2 Z)=Q (J I code)/\ZW w (T b 3 Z)=Q (U text)/\ZW w (T b 4 Z)=Q act/\ZW w (T b 5 Z)=Q (Y Z 0 0)/\ZW w (T b 6 Z)=Q f/\ZW w (T b 7 Z)=Q (J I zd)/\∀j,ZX w (T b j Z)=ZA:=by unfold EntBlk at h;refine⟨ah h,?_,?_,?_,?_,?_,?_,?_,?_,λj=>?_⟩;all_goals simp[World.cell?,World.frozen?,h]
def EU.tied{j:E}{m:List Lk}{v:ZB}{l:Lk}(h:EU w0 S w b nm tg G m v q_ V)(y:l.ask=ZH->∃x∈q_,x.e=l.e)(Z9:w.grownBy j v.ownBlock)(s:ZY j (A (z w0)) 184 5 v' (B m+1) (fE G m++mD G l))(ZZ:v'.ownBlock=v.ownBlock\/v'.ownBlock=Q (A (z w)))(H:∀x∈q_,∀k,(V x.e).ownBlock=Q k->k<A (z w)):EU w0 S (ZU j (T b 6 Z) v') b nm tg G (m++[l]) v' q_ V:=by
 obtain⟨⟨a,j_,g,D⟩,u,p,ZT,t,has⟩:=h;have q:Q b≠v.ownBlock:=λe=>by obtain⟨_,_,C,o⟩:=af p b e.c;exact absurd (ar g o) (by decide)
 have i:j.heap[b]?=_:=(Z9.p b (ah g) q).k g;refine⟨⟨a,j_,aw i v',D⟩,u,?_,ZT,λx r k n=>?_,λZ8 hz f=>?_⟩;{rw[CB,cM,AI];refine aB s (λe=>?_) _ _;obtain⟨_,_,C,o⟩:=af s b e;exact absurd (ar i o) (by decide)}
 ·rcases ZZ with e|e;{exact t x r k (by rw[<-e];exact n)}
  ·rw[e] at n;cases n
   intro ZS;have:=H x r _ ZS;omega
 {rcases p8.1 hz with hz|hz;{exact has Z8 hz f};{rw[j4.1 hz] at f ⊢;exact y f}}
def MIg.tied{p:E}{H:List Lk}{v:ZB}(h:MIg w0 S mb mp s0 s1 w yh F nk ks np ps q_ G V mk md)(ZR:EU w0 S w n nm tg G H v q_ V)(Z8:w.grownBy p v.ownBlock):MIg w0 S mb mp s0 s1 (ZU p (T n 6 Z) v') yh F nk ks np ps q_ G V mk md/\KX (A (z w0)) (λi=>i=n\/v.ownBlock=Q i) w (ZU p (T n 6 Z) v'):=by
 obtain⟨⟨a,j_,b,ha⟩,C,m,K,Z9,has⟩:=ZR;have ZS:KX (A (z w0)) (λi=>i=n\/v.ownBlock=Q i) w p:=KX.of_grown Z8 h.lt λj y=>⟨(af m j y).1,.inl (.inr y)⟩
 have ZT:KX (A (z w0)) (λi=>i=n\/v.ownBlock=Q i) p (ZU p (T n 6 Z) v'):=KX.setCell p C (.inl (.inl rfl)) v';have ZZ:=ZS.k ZT λ_ _ h=>h;refine⟨h.kx ZZ (λi o hi s=>?_) (λe=>?_) (λe=>?_) (λk l e=>?_) (λk l e=>?_) (λx r=>⟨λe=>?_,λk l e=>?_⟩),ZZ⟩;{exact(qh _ _ _ _ λe=>s (.inl e)).k (Z8.p i (ah hi) λe=>s (.inr e.c))};{rcases e with e|e;{rw[<-e] at b;exact absurd (ar b h.ab) (by decide)};{obtain⟨_,_,u,g⟩:=af m _ e;exact absurd (ar g h.ab) (by decide)}};{obtain⟨es,c,D⟩:=h.map.isMap;rcases e with e|e;{unfold EntBlk at b;rw[<-e,D] at b;cases b};{obtain⟨_,_,u,g⟩:=af m _ e;rw[D] at g;cases g}};{obtain⟨_,_,u,g⟩:=af h.rmk _ l;rcases e with e|e;{rw[<-e] at b;exact absurd (ar b g) (by decide)};{obtain⟨_,_,q,f⟩:=af m _ e;exact absurd (ar g f) (by decide)}};{obtain⟨_,_,u,g⟩:=af h.X _ l;rcases e with e|e;{rw[<-e] at b;exact absurd (ar b g) (by decide)};{obtain⟨_,_,q,f⟩:=af m _ e;exact absurd (ar g f) (by decide)}};{rcases e with e|e;{exact K x r e};{obtain⟨act,t,_⟩:=(h.W x r).ad;obtain⟨_,_,q,f⟩:=af m _ e;exact absurd (ar t f) (by decide)}};{rcases e with e|e;{obtain⟨_,_,q,f⟩:=af (h.W x r).row _ l;rw[<-e] at b;exact absurd (ar b f) (by decide)};{exact Z9 x r k e l}}
def MIg.vlt (h:MIg w0 S mb mp s0 s1 w yh F nk ks np ps q_ G V mk md):∀x∈q_,∀k,(V x.e).ownBlock=Q k->k<A (z w):=λx b k f=>(af (h.W x b).row k f).2.1
end
open Ca
def bM{size:Nat}{v:ZB}{f:List ZB}(h:ZY w b e size v n f):∃a j_,v=Y a n j_:=by
 obtain⟨_,⟨rfl,rfl⟩|⟨g,j_,cur,rfl,_⟩⟩:=h;{exact⟨Z,0,rfl⟩};{exact⟨_,_,rfl⟩}
def yy (w:E)(m b g f l:ZB)(t:ZK):∀j u,[m,b,g,f,l][j]?=Q u->(ZV w (N #[m,b,g,f,l] t)).cell? (((T (A (z w)) 0 Z):Addr).add j)=Q u:=by
 intro j u h;rw[addr_add];have hj:j<5:=by
  rcases OR j 5 with i|i;{exact i};{rw[NT (by simp;omega)] at h;cases h}
 rcases(show j=0\/j=1\/j=2\/j=3\/j=4 by omega) with rfl|rfl|rfl|rfl|rfl;all_goals
  simp at h;subst h;simp
section
variable {w0:E}{S:xl}{a0 a1:O_}{c0 c1 mb mp:Nat}{mk md:ZB}{y_:List F_}{q_:List k_}{G:F_->Nat}{V:F_->ZB}
def RepSt (w0:E)(S:xl)(mb mp:Nat)(s0 s1:ZB)(w w':E)(y_:List F_)(q_:List k_)(G:F_->Nat)(V:F_->ZB)(mk md:ZB)(b tg:Nat)(nm:F_)(g:List Lk)(v f:ZB):Prop:=
 MI w0 S mb mp s0 s1 w' y_ y_ q_ G V mk md/\EU w0 S w' b nm tg G g f q_ V/\KX (A (z w0)) (λi=>i=b\/v.ownBlock=Q i) w w'/\∀k,f.ownBlock=Q k->v.ownBlock=Q k\/(A (z w))<=k
def RepSt.set{W:E}{s0 s1:ZB}{rb:Nat}{g:List Lk}{v n:ZB}(h:RepSt w0 S mb mp s0 s1 w W y_ q_ G V mk md f tg nm g v n)(hb:W.heap[rb]?=Q (N o t (0,0)))(m:vU t)(l:A (z w0)<=A (z w))(b:A (z w)<=rb)(j:Nat)(u:ZB):RepSt w0 S mb mp s0 s1 w (ZU W (T rb j Z) u) y_ q_ G V mk md f tg nm g v n/\(ZU W (T rb j Z) u).heap[rb]?=Q (N (o.setIfInBounds j u) t (0,0)):=
 ⟨⟨h.1.ag hb m (nX l b) j u,h.2.1.ag hb m j u,h.2.2.1.k (KX.setCell (X:=λi=>i=rb) W (nX l b) (Or.inl rfl) u) (λi hi e=>by have e2:i=rb:=e;omega),h.2.2.2⟩,aw hb u⟩
def dL{i f g:ZB}(h:w.heap[b]?=Q (N #[i,f,g] t (0,0))):b<A (z w)/\ZW w (T b 0 Z)=Q i/\ZW w (T b 1 Z)=Q f/\ZW w (T b 2 Z)=Q g/\∀j,ZX w (T b j Z)=ZA:=by refine⟨ah h,?_,?_,?_,λj=>?_⟩;all_goals simp[World.cell?,World.frozen?,h]
def JD (w W:E)(c0 c1 c2 c3 c4 c5:ZB):Prop:=Hid (Below (A (z w)) w W)/\ZW W (T (A (z w)) 3 Z)=Q c3/\ZW W (T (A (z w)) 4 Z)=Q c4/\(A (z W))=A (z w)+2/\Hid (W.heap[A (z w)+1]?=Q (N #[ZF ZA,J I 0,U ⟨#[]⟩] 119 (0,0)))/\Hid (W.heap[A (z w)]?=Q (N #[c0,c1,c2,c3,c4,c5] 116 (0,0)))
def yz (w:E)(c0 c1 c2 c3 c4 c5:ZB):JD w (ZV (ZV w (N #[c0,c1,c2,c3,c4,c5] 116)) (N #[ZF ZA,J I 0,U ⟨#[]⟩] 119)) c0 c1 c2 c3 c4 c5:=by refine⟨((BS w).alloc ly _).alloc (by simp) _,by simp[go_sem],by simp[go_sem],by simp,?_,(((a8 (A (z w)+1) _).alloc (by simp) _).p (A (z w)) (by omega)).k (gM w _)⟩;have h2:=gM (ZV w (N #[c0,c1,c2,c3,c4,c5] 116)) (N #[ZF ZA,J I 0,U ⟨#[]⟩] 119);rw[show(A (z (ZV w (N #[c0,c1,c2,c3,c4,c5] 116))))=A (z w)+1 by simp] at h2;exact h2
def yA (w0:E)(S:xl)(mb mp:Nat)(s0 s1:ZB)(y_:List F_)(q_:List k_)(G:F_->Nat)(V:F_->ZB)(w:E)(i tg:Nat)(nm name:F_)(j:List Lk)(v:ZB)(e:Ending)(w':E):Out k_->Prop
 |.inl (made',x)=>e=ZI (ZJ #[ZF (decide (¬ x.L=2)),J I x.M,U x.H])/\∃b h f g l,RepSt w0 S mb mp s0 s1 w w' y_ made' b h f g i tg nm (j++[⟨name,ZH,ZA⟩]) v l/\Ext (A (z w)) q_ made' G b V h
 |.inr (.inl c)=>∃v,e=.panicked [{ v:=.iface 220 (ZJ #[v]),recovered:=ZA }]/\ZY w' (A (z w0)) 9 1 v (B c) (bO c)/\Below (A (z w0)) w w'
 |.inr (.inr d)=>e=.panicked [{ v:=.iface 222 (ZJ #[U d]),recovered:=ZA }]/\Below (A (z w0)) w w'
def sY:(∀(C:Ctx w0 S a0 c0 a1 c1) (w:E) (f tg:Nat) (nm:F_) (b:List Lk) (v:ZB) (ZP:Turn) (h:MI w0 S mb mp (Y a0 S.n0 c0) (Y a1 S.n1 c1) w y_ y_ q_ G V mk md) (y:EU w0 S w f nm tg G b v q_ V) (At:B b<=200) (Z8:ZP.ask=ZA),Qw Pg 197 #[.pointer (Q (T mb 0 Z)),.pointer (Q (T f 0 Z)),ZP.v] w λe w'=>e=ZI (ZJ #[ZF (fL S ZP.e),J I 0,U ⟨#[]⟩])/\∃v',RepSt w0 S mb mp (Y a0 S.n0 c0) (Y a1 S.n1 c1) w w' y_ q_ G V mk md f tg nm (b++[⟨ZP.e,ZA,fL S ZP.e⟩]) v v')/\(∀(C:Ctx w0 S a0 c0 a1 c1) (n:Nat) (HL:jX w0 S mb mp (Y a0 S.n0 c0) (Y a1 S.n1 c1) n) (w:E) (f tg:Nat) (nm:F_) (b:List Lk) (v:ZB) (ZP:Turn) (n8:B y_+n=60) (h:MI w0 S mb mp (Y a0 S.n0 c0) (Y a1 S.n1 c1) w y_ y_ q_ G V mk md) (hp:PG S y_ q_) (la:eX S y_ q_ 1) (y:EU w0 S w f nm tg G b v q_ V) (At:B b<=200) (Z8:ZP.ask=ZH) (hn:aA ZP.e=ZH),Qw Pg 197 #[.pointer (Q (T mb 0 Z)),.pointer (Q (T f 0 Z)),ZP.v] w λe w'=>yA w0 S mb mp (Y a0 S.n0 c0) (Y a1 S.n1 c1) y_ q_ G V w f tg nm ZP.e b v e w' (aT S n y_ q_ ZP.e)):=by
 refine⟨λC w f tg nm b v ZP h y At Z8=>?_,λC n HL w f tg nm b v ZP n8 h hp la y At Z8 hn=>?_⟩;focus
  obtain⟨i1,hi,ph,n9,ur⟩:=qP yx;obtain⟨t,r,rfl⟩:=bM y.row;obtain⟨over,code,text,ask,name,v_⟩:=ZP;simp only at Z8;subst Z8;obtain⟨ZZ,sm,D,DQ,kr,-⟩:=yz w (ZF over) (J I code) (U text) (ZF ZA) (U name) (J I v_);have ZO:=ae (h.aa ZZ ly);have U0:=ae (y.aa ZZ ly);have ZL:=ae C;have s:A (z w0)<=A (z w):=h.lt;have JM:f<A (z w):=by obtain⟨⟨aa,ca,j,ha⟩,-⟩:=y;exact ah j
  have Hx:Hid (Q (A (z w)+1)≠(Value.slice t (B b) r).ownBlock):=λe=>by have:=(af y.row _ e.c).2.1;omega
  have TN:Hid (Q (A (z w))≠(Value.slice t (B b) r).ownBlock):=λe=>by have:=(af y.row _ e.c).2.1;omega
  clear h y C;show Qw Pg 197 #[.pointer (Q (T mb 0 Z)),.pointer (Q (T f 0 Z)),ZJ #[ZF over,J I code,U text,ZF ZA,U name,J I v_]] w _;obtain⟨hb,qr⟩:∃hb,hb=fL S name:=⟨_,rfl⟩
  have JS:=ae qr;rw[<-qr];clear qr;go_enter func197,ntmps197;go_wp2_with fail;clear sm;generalize World.alloc (World.alloc w _) _=W0 at ZZ D DQ kr ZO U0 ⊢;obtain⟨ld,m0,m1,-⟩:=ZO.ab.y;refine wp_region_held_drew (S:=λV=>ZW V (T mb 0 Z)=Q (Y a0 S.n0 c0)/\ZW V (T mb 1 Z)=Q (Y a1 S.n1 c1)/\ZW V (T (A (z w)) 4 Z)=Q (U name)) (by kernel_rfl) ⟨m0,m1,D⟩ λhS=>?_;have ZR:=ae hS;clear hS
  iterate 6
   first|refine aN 0 (v:=?_) rfl rfl (by kernel_rfl) (λ_ _ _ h=>h) rfl ?_ ZR ?_|refine aN 4 (v:=?_) rfl rfl (by kernel_rfl) (λ_ _ _ h=>h) rfl ?_ ZR ?_
   rotate_left
   ·(rintro wz⟨s0,s1,s2⟩;go_simp)
    (try with_reducible rfl)
   (try simp only[p_,z_])
  refine aL (i:=6) rfl (by kernel_rfl) λK m=>?_;go_simp;go_at_call 98;have ro:Hid (Below (A (z w0)) w0 W0.drew):=ZO.ak.drew;refine(rC a0 S.n0 c0 S.f0 a1 S.n1 c1 S.f1 name _ (by have:=ZL.ok.bb;omega) (by have:=ZL.ok.bb;omega) (ZL.src.aa ro ly) (ZL.w.aa ro ly) ZL.ok.asc0 ZL.ok.asc1).P ?_;rintro e g⟨he,hB⟩;rw[show(aF (nm0 S.f0) S.n0 name || aF (nm1 S.f1) S.n1 name)=hb from JS.c] at he;subst he;have H:Hid (Below (A (z W0)) W0 g):=⟨hB.os,hB.tape,hB.output,hB.size,hB.p⟩
  clear hB ro;have JJ:A (z w)<A (z W0):=by omega
  refine m _ _ ⟨(H.O (p:=(T mb 0 Z)) ld).k m0,(H.O (p:=(T mb 1 Z)) ld).k m1,(H.O (p:=(T (A (z w)) 4 Z)) JJ).k D⟩ ?_;clear m K ZR;have ZR:Hid (ZW g (T mb 0 Z)=Q (Y a0 S.n0 c0)/\ZW g (T mb 1 Z)=Q (Y a1 S.n1 c1)/\ZW g (T (A (z w)) 4 Z)=Q (U name)):=⟨(H.O (p:=(T mb 0 Z)) ld).k m0,(H.O (p:=(T mb 1 Z)) ld).k m1,(H.O (p:=(T (A (z w)) 4 Z)) JJ).k D⟩
  (try simp only[p_,z_])
  refine aN 7 (v:=?_) rfl rfl (by kernel_rfl) (λ_ _ _ h=>h) rfl ?_ ZR ?_;rotate_left
  ·(rintro wz⟨s0,s1,s2⟩;go_simp)
   (try with_reducible rfl)
  (try simp only[p_,z_])
  refine wpAnyH_done (by kernel_rfl) ?_ _;have A1:=ae (ZZ.k (H.P ZZ.size));have KW:=ae (KX.l (X:=XN) A1 ly s);have M1:=ae (ZO.aa H ly);have U1:=ae (U0.aa H ly);have n4:=ZR.2.2;have JI:Hid (g.heap[A (z w)+1]?=Q (N #[ZF ZA,J I 0,U ⟨#[]⟩] 119 (0,0))):=(H.p _ (by omega)).k kr;have JQ:A (z w)+2<=A (z g):=by have:=H.size;omega
  clear ZR m0 m1 D ZO U0 kr ZZ;go_wp2_with fail;obtain⟨o,O⟩:∃x,x=q_:=⟨_,rfl⟩
  subst O;obtain⟨L,O⟩:∃x,x=G:=⟨_,rfl⟩
  subst O;obtain⟨V',O⟩:∃x,x=V:=⟨_,rfl⟩
  subst O;obtain⟨ZM,O⟩:∃x,x=mk:=⟨_,rfl⟩
  subst O;obtain⟨aq,O⟩:∃x,x=md:=⟨_,rfl⟩
  subst O;have MH:=True.intro;obtain⟨lk,DE⟩:∃l:Lk,l=⟨name,ZA,hb⟩:=⟨_,rfl⟩
 rotate_left;focus
  obtain⟨i1,hi,ph,n9,ur⟩:=qP yx;obtain⟨t,r,rfl⟩:=bM y.row;obtain⟨over,code,text,ask,name,v_⟩:=ZP;simp only at Z8 hn;subst Z8;obtain⟨ZZ,sm,D,DQ,kr,kt⟩:=yz w (ZF over) (J I code) (U text) (ZF ZH) (U name) (J I v_);have ZO:=ae (h.aa ZZ ly);have U0:=ae (y.aa ZZ ly);have ZL:=ae C;have JR:=ae HL;have PP:=ae hp;have s:A (z w0)<=A (z w):=h.lt;have JM:f<A (z w):=by obtain⟨⟨aa,ca,j,ha⟩,-⟩:=y;exact ah j
  have Hx:Hid (Q (A (z w)+1)≠(Value.slice t (B b) r).ownBlock):=λe=>by have:=(af y.row _ e.c).2.1;omega
  have TN:Hid (Q (A (z w))≠(Value.slice t (B b) r).ownBlock):=λe=>by have:=(af y.row _ e.c).2.1;omega
  clear h y C HL hp;show Qw Pg 197 #[.pointer (Q (T mb 0 Z)),.pointer (Q (T f 0 Z)),ZJ #[ZF over,J I code,U text,ZF ZH,U name,J I v_]] w _;obtain⟨R,hR⟩:∃R,R=aT S n y_ q_ name:=⟨_,rfl⟩
  have HR:=ae hR;simp only;rw[<-hR];clear hR;go_enter func197,ntmps197;go_wp2_with fail;clear sm D;generalize World.alloc (World.alloc w _) _=W0 at ZZ DQ kr kt ZO U0 ⊢;refine(JR y_ q_ G V mk md W0 name n8 ZO PP la hn).P ?_;intro e g Z9;rw[<-HR.i] at Z9;rcases R with⟨o,x⟩|c|d;rotate_left
  ·obtain⟨u,rfl,h1,h2⟩:=Z9
   go_wp2_with fail;exact⟨rfl,u,rfl,h1,(ZZ.P s).k h2⟩
  ·obtain⟨rfl,h2⟩:=Z9
   go_wp2_with fail;exact⟨rfl,rfl,(ZZ.P s).k h2⟩
  obtain⟨L,V',ZM,aq,rfl,hM,hE,m⟩:=Z9;obtain⟨JN,-,hx,mv⟩:=dm ZL.ok n y_ q_ name o x PP hn HR.c;have M1:=ae hM;have U1:=ae (U0.step m hE);have E1:=ae (hE.P (show (A (z w))<=A (z W0) by omega));have KW:=ae ((KX.l (X:=XN) ZZ ly s).to m);have HX:=ae hx;have JK:=ae mv;have JQ:A (z w)+2<=A (z g):=by have:=m.aa.size;omega
  have JI:Hid (g.heap[A (z w)+1]?=Q (N #[ZF ZA,J I 0,U ⟨#[]⟩] 119 (0,0))):=(m.ad _ _ _ _ kr (by decide) (by decide) (by decide) λh=>h).k kr;have JG:=(m.ad _ _ _ _ kt (by decide) (by decide) (by decide) λh=>h).k kt;have n4:ZW g (T (A (z w)) 4 Z)=Q (U name):=by simp[World.cell?,JG]
  rw[mv];clear hM hE m hx mv JN JG ZO U0 kr kt;go_wp2_with fail;obtain⟨lk,DE⟩:∃l:Lk,l=⟨name,ZH,ZA⟩:=⟨_,rfl⟩
 all_goals
  obtain⟨⟨aa,ca,j,ha⟩,-⟩:=U1.i;obtain⟨GS,-,-,-,-,-,-,e6,-,ef⟩:=j.y;have ef6:=ef 6;have hebB:A (z w0)<=f:=U1.ge;clear j ha ef;have SQ:Hid (∀V:E,(∀k,k<A (z g)->Q k≠(Value.slice t (B b) r).ownBlock->V.heap[k]?=g.heap[k]?)->ZW V (T f 6 Z)=Q (Y t (B b) r)/\ZW V (T (A (z w)) 4 Z)=Q (U name)):=λV hV=>by
   have ZN:Q f≠(Value.slice t (B b) r).ownBlock:=λe=>by obtain⟨⟨aa,ca,j,ha⟩,-⟩:=U1.i;obtain⟨_,_,cs,hc⟩:=af U1.row f e.c;exact absurd (ar j hc) (by decide)
   have JL:Q (A (z w))≠(Value.slice t (B b) r).ownBlock:=TN.i;exact⟨(cq (a:=(T f 6 Z)) (hV f GS ZN)).k e6,(cq (a:=(T (A (z w)) 4 Z)) (hV (A (z w)) (by omega) JL)).k n4⟩
  have ZR:=ae (SQ g.drew (λk P _=>rfl));have UD:Hid (EU w0 S g.drew f nm tg L b (Y t (B b) r) o V'):=U1.aa br.drew ly;have MD:Hid (MI w0 S mb mp (Y a0 S.n0 c0) (Y a1 S.n1 c1) g.drew y_ y_ o L V' ZM aq):=M1.aa br.drew ly;refine aI (λV=>ZW V (T f 6 Z)=Q (Y t (B b) r)/\ZW V (T (A (z w)) 4 Z)=Q (U name)) 14 (by kernel_rfl) ?_;clear e6 n4
  iterate 10
   first|refine aO 0 (v:=?_) rfl rfl (by kernel_rfl) (λ_ _ _ h=>h) rfl ?_ ZR ?_|refine aO 5 (v:=?_) rfl rfl (by kernel_rfl) (λ_ _ _ h=>h) rfl ?_ ZR ?_
   rotate_left
   ·(rintro wz⟨s0,s1⟩;go_simp)
    (try with_reducible rfl)
   (try simp only[p_,z_])
  refine ai (i:=10) rfl (by kernel_rfl) λK m=>?_;go_simp;first|(guard_hyp MH;have AB:=ae ((a8 (A (z g)) g.drew).alloc ly (N #[U name,ZF ZA,ZF hb,J I 0,.pointer Z] 184)))|have AB:=ae ((a8 (A (z g)) g.drew).alloc ly (N #[U name,ZF ZH,ZF ZA,J I 0,.pointer (Q (T (L name) 0 Z))] 184))
  have UA:=ae (UD.aa AB ly);have MA:=ae (MD.aa AB ly);refine m _ _ (λ_=>SQ _ (λk P _=>AB.p k P)) ?_;clear m K
  (try simp only[p_,z_])
  refine ai (i:=11) rfl (by kernel_rfl) λK m=>?_;first|(guard_hyp MH;refine aU rfl (.tmp 23) (.tmp 29) 132 rfl (A (z w0)) 184 i1 (ZJ #[U ⟨#[]⟩,ZF ZA,ZF ZA,J I 0,.pointer Z]) 5 40 underlying132 hi ph n9 ur rfl (by decide) (Y t (B b) r) (B b) (fE L b) (by simp[Act.eval]) UA.row (T (A (z g)) 0 Z) 1 1 [U name,ZF ZA,ZF hb,J I 0,.pointer Z] (by simp[Act.eval]) rfl (yy g.drew _ _ _ _ _ _) (by simp[Value.oneCell']) (by unfold maxLen;omega) (by omega) MA.lt ?_)|refine aU rfl (.tmp 43) (.tmp 49) 132 rfl (A (z w0)) 184 i1 (ZJ #[U ⟨#[]⟩,ZF ZA,ZF ZA,J I 0,.pointer Z]) 5 40 underlying132 hi ph n9 ur rfl (by decide) (Y t (B b) r) (B b) (fE L b) (by simp[Act.eval]) UA.row (T (A (z g)) 0 Z) 1 1 [U name,ZF ZH,ZF ZA,J I 0,.pointer (Q (T (L name) 0 Z))] (by simp[Act.eval]) rfl (yy g.drew _ _ _ _ _ _) (by simp[Value.oneCell']) (by unfold maxLen;omega) (by omega) MA.lt ?_
  intro v' w3 fd ZQ Fm;have O3:=ae fd;have G3:=ae ZQ;have th:=ae Fm;have S3:=ae (SQ w3 (λk P ZN=>(ZQ.p k (lj P (by simp<;>omega)) ZN).k (AB.p k P)));obtain⟨ZS,ZT,rfl⟩:=bM fd;clear fd ZQ Fm;refine m _ _ (λ_=>S3) ?_;clear m K ZR
  (try simp only[p_,z_])
  iterate 2
   refine bV 12 rfl rfl (by kernel_rfl) λK m=>?_;go_simp;refine m _ _ (λ_=>S3) ?_;clear m K
   (try simp only[p_,z_])
  have M4:=ae (MA.tied UA G3 (v':=Y ZS (B b+1) ZT));first|(guard_hyp MH;have U4:=ae (UA.tied (l:=⟨name,ZA,hb⟩) (λh=>by cases h) G3.i O3.i th.i MA.vlt))|have U4:=ae (UA.tied (l:=⟨name,ZH,ZA⟩) (λ_=>⟨x,HX,JK⟩) G3 O3 th MA.vlt)
  rw[<-DE] at U4;have s6:=S3.1;have JT:ZX w3 (T f 6 Z)=ZA:=by
   obtain⟨⟨aa,ca,j,ha⟩,-⟩:=UA.i;have ZN:Q f≠(Value.slice t (B b) r).ownBlock:=λe=>by obtain⟨_,_,cs,hc⟩:=af UA.row f e.c;exact absurd (ar j hc) (by decide)
   exact(NF (a:=(T f 6 Z)) (G3.p f (ah j) ZN)).k (j.y.2.2.2.2.2.2.2.2.2 6)
  have JP:A (z g)<=A (z w3):=nX (by simp<;>omega) G3.size;have hel3:f<A (z w3):=lj GS JP;refine ai (i:=14) rfl (by kernel_rfl) λK m=>?_;go_simp;refine m _ _ (λh=>absurd rfl h) ?_;clear m K s6 JT
  (try simp only[p_,z_])
  refine ba (by kernel_rfl) ?_ _;have RB:Hid ((ZU w3 (T f 6 Z) (Y ZS (B b+1) ZT)).heap[A (z w)+1]?=Q (N #[ZF ZA,J I 0,U ⟨#[]⟩] 119 (0,0))):=(qh _ _ _ _ (show (A (z w))+1≠f by omega)).k ((G3.p _ (lj (show (A (z w))+1<A (z g) by omega) (by simp<;>omega)) Hx).k ((AB.p _ (by omega)).k JI));have R4:Hid (RepSt w0 S mb mp (Y a0 S.n0 c0) (Y a1 S.n1 c1) w (ZU w3 (T f 6 Z) (Y ZS (B b+1) ZT)) y_ o L V' ZM aq f tg nm (b++[lk]) (Y t (B b) r) (Y ZS (B b+1) ZT)):=by
   refine⟨M4.1,U4,?_,λk P=>?_⟩
   ·exact((KW.to (KX.l (X:=XN) (⟨AB.os,AB.tape,AB.output,AB.size,AB.p⟩:Below (A (z g)) g _) ly (by omega))).weak).k M4.2 λ_ _ h=>h
   ·rcases th.i with e|e
    ·exact .inl (by rw[<-e];exact P)
    ·rw[e] at P
     cases P
     exact .inr (nX (show (A (z w))<=A (z g) by omega) (by simp<;>omega))
  generalize World.setCell w3 _ _=W4 at RB R4 ⊢;obtain⟨rl,r0,r1,r2,M⟩:=dL RB;have Id:=M 0;have Fd:=M 1;have JH:=M 2;subst DE
 focus
  clear M M4 U4;have EX:=ae (R4.1.W x HX);obtain⟨act,j,bt⟩:=EX.ad;rw[JK.i] at j;obtain⟨q,q0,q1,q2,q3,q4,q5,-,-,-⟩:=j.y;obtain⟨aa,na,ca,rfl⟩:∃a n c,act=Y a n c:=by
   unfold oF at bt;split at bt
   ·obtain⟨_,a,c,e,_⟩:=bt;exact⟨a,_,c,e⟩
   ·exact⟨_,_,_,bt⟩
  clear j bt;go_wp2_with fail;refine(sj ⟨name,x.L,x.M,x.H,na,λ_=>⟨0,⟨#[]⟩,0⟩,0,λ_=>⟨⟨#[]⟩,ZA,ZA,0⟩⟩ aa ca Z 0 W4).P ?_;rintro e w5⟨rfl,W⟩;have Fk:Hid (w5.heap[A (z w)+1]?=Q (N #[ZF ZA,J I 0,U ⟨#[]⟩] 119 (0,0))):=(W.p _ rl).k RB;have R5:Hid (RepSt w0 S mb mp (Y a0 S.n0 c0) (Y a1 S.n1 c1) w w5 y_ o L V' ZM aq f tg nm (b++[⟨name,ZH,ZA⟩]) (Y t (B b) r) (Y ZS (B b+1) ZT)):=⟨R4.1.aa W ly,R4.2.1.aa W ly,R4.2.2.1.to (KX.l W ly R4.1.lt),R4.2.2.2⟩
  clear r0 r1 r2 Id Fd JH q0 q1 q2 q3 q4 q5 W;obtain⟨rl5,r0,r1,r2,M⟩:=dL Fk;have Id:=M 0;have Fd:=M 1;have JH:=M 2;clear M;obtain⟨kb,Bk⟩:∃kb,kb=decide (¬ x.L=2):=⟨_,rfl⟩
  have JO:=ae Bk;simp only;rw[<-Bk];clear Bk;go_wp2_with fail;refine bp (v:=ZJ #[ZF kb,J I x.M,U x.H]) (by simp[results,results197,go_sem,r0,r1,r2]) rfl ?_;show yA w0 S mb mp (Y a0 S.n0 c0) (Y a1 S.n1 c1) y_ q_ G V w f tg nm name b (Y t (B b) r) _ _ (.inl (o,x));refine⟨by rw[JO.i],L,V',ZM,aq,Y ZS (B b+1) ZT,?_,E1⟩;have X0:=R5.set Fk.i (by decide) s (BV _) 0 (ZF kb);have X1:=X0.1.set X0.2 (by decide) s (BV _) 1 (J I x.M);have X2:=X1.1.set X1.2 (by decide) s (BV _) 2 (U x.H);exact X2.1
 focus
  clear M M4 U4;go_wp2_with fail;refine bp (v:=ZJ #[ZF hb,J I 0,U ⟨#[]⟩]) (by simp[results,results197,go_sem,r0,r1,r2]) rfl ⟨rfl,Y ZS (B b+1) ZT,?_⟩;have X0:=R4.set RB.i (by decide) s (BV _) 0 (ZF hb);have X1:=X0.1.set X0.2 (by decide) s (BV _) 1 (J I 0);have X2:=X1.1.set X1.2 (by decide) s (BV _) 2 (U ⟨#[]⟩);exact X2.1
end
def FU (f g yh j_:Nat)(w:E):Qw Pg 136 #[ZJ #[Y (Q (T f g Z)) yh j_]] w λe w'=>∃b,e=ZI (.func (.func 158) #[] #[.pointer (Q (T b 0 Z))])/\(A (z w))<=b/\MAt w' b (Y (Q (T f g Z)) yh j_) m0/\(∃h,w'.heap[b]?=Q (N h 240 (0,0)))/\Below (A (z w)) w w':=by
 have i:=ae ((BS w).alloc ly (N #[Y (Q (T f g Z)) yh j_] 37));have k0:ZW (ZV w (N #[Y (Q (T f g Z)) yh j_] 37)) (T (A (z w)) 0 Z)=Q (Y (Q (T f g Z)) yh j_):=by simp
 have z0:A (z (ZV w (N #[Y (Q (T f g Z)) yh j_] 37)))=A (z w)+1:=by simp
 have l:=ae (vd (ZV w (N #[Y (Q (T f g Z)) yh j_] 37)) (Q (T f g Z)) yh j_);have j:=ae (by have:=l.i;rw[z0] at this;exact this);have m:=ae (i.alloc i.size (N (fD (Y (Q (T f g Z)) yh j_)) 240));have n:Hid (∃h,((ZV w (N #[Y (Q (T f g Z)) yh j_] 37)).alloc (N (fD (Y (Q (T f g Z)) yh j_)) 240)).heap[A (z w)+1]?=Q (N h 240 (0,0))):=by have h2:=gM (ZV w (N #[Y (Q (T f g Z)) yh j_] 37)) (N (fD (Y (Q (T f g Z)) yh j_)) 240);rw[z0] at h2;exact⟨_,h2⟩
 go_enter func136,ntmps136
 go_wp2_with (first
  |(refine ve rfl 240 #[(1,.tmp 5)] rfl [(1,Y (Q (T f g Z)) yh j_)] (fD (Y (Q (T f g Z)) yh j_)) (by simp[Act.eval]) (Bu _ _ _) ?_)
  |(refine wpList_store_row rfl 240 (.tmp 3) (.tmp 6) rfl (A (z w)+1) (fD (Y (Q (T f g Z)) yh j_)) rfl rfl _ _ (by rw[<-z0];exact heap_alloc_last _ _) (infoM.k (by rw[jq])) (by rw[jq];rfl) (sK _ _ _) ?_;rw[<-z0,World.setRow_alloc_new])
  |fail)
 go_ret;exact⟨_,rfl,by first|(simp;done)|(simp;omega),j,n,m⟩
section
variable {w0 w w':E}{S:xl}{mb mp:Nat}{s0 s1 mk md:ZB}{yh nk np:Nat}{F:List UInt8->Option ZB}{ks ps:List ZB}{q_:List k_}{G:F_->Nat}{V:F_->ZB}
def MIg.ac{fz:Nat × Nat}(h:MIg w0 S mb mp s0 s1 w yh F nk ks np ps q_ G V mk md)(hb:w.heap[b]?=Q (N j t fz))(Z8:vU t)(r:A (z w0)<=b)(q:zt b w w'):MIg w0 S mb mp s0 s1 w' yh F nk ks np ps q_ G V mk md:=by
 have C:KX (A (z w0)) (λi=>i=b) w w':=KX.of_only q rfl h.lt r;obtain⟨u,Z9,y,ZZ,s⟩:=Z8;refine h.kx C (λi o hi m=>q.p i (ah hi) m) (λe=>?_) (λe=>?_) (λk f e=>?_) (λk f e=>?_) λx n=>⟨λe=>?_,λk f e=>?_⟩
 {subst e;exact y (ar hb h.ab)};{obtain⟨es,c,p⟩:=h.map.isMap;rw[e,hb] at p;cases p};{subst e;obtain⟨_,_,j,g⟩:=af h.rmk _ f;exact u (ar hb g)};{subst e;obtain⟨_,_,j,g⟩:=af h.X _ f;exact Z9 (ar hb g)};{obtain⟨act,l,_⟩:=(h.W x n).ad;rw[e] at l;exact ZZ (ar hb l)};{subst e;obtain⟨_,_,j,g⟩:=af (h.W x n).row _ f;exact s (ar hb g)}
def EU.ac{v:ZB}{n:Array ZB}{fz:Nat × Nat}(h:EU w0 S w g nm tg G i v q_ V)(hb:w.heap[b]?=Q (N n t fz))(s:vU t)(o:zt b w w'):EU w0 S w' g nm tg G i v q_ V:=by
 obtain⟨⟨a,j_,f,r⟩,m,j,u,l,has⟩:=h;obtain⟨t1,t2,t3,x,p⟩:=s;refine⟨⟨a,j_,(o.p _ (ah f) λe=>?_).k f,r⟩,m,b9 j λk Z8=>?_,u,l,has⟩;{subst e;exact x (ar hb f)};{obtain⟨_,q,n,y⟩:=af j _ Z8;exact o.p k q λe=>p (ar hb (e ▸ y))}
def MIg.entOnly{fz:Nat × Nat}(h:MIg w0 S mb mp s0 s1 w yh F nk ks np ps q_ G V mk md)(hb:w.heap[f]?=Q (N j 134 fz))(r:∀x∈q_,G x.e≠f)(q:A (z w0)<=f)(p:zt f w w'):MIg w0 S mb mp s0 s1 w' yh F nk ks np ps q_ G V mk md:=by
 have s:KX (A (z w0)) (λi=>i=f) w w':=KX.of_only p rfl h.lt q;refine h.kx s (λi o hi l=>p.p i (ah hi) l) (λe=>?_) (λe=>?_) (λk b e=>?_) (λk b e=>?_) λx m=>⟨λe=>r x m e,λk b e=>?_⟩
 {subst e;exact absurd (ar hb h.ab) (by decide)};{obtain⟨es,c,n⟩:=h.map.isMap;rw[e,hb] at n;cases n};{subst e;obtain⟨_,_,j,g⟩:=af h.rmk _ b;exact absurd (ar hb g) (by decide)};{subst e;obtain⟨_,_,j,g⟩:=af h.X _ b;exact absurd (ar hb g) (by decide)};{subst e;obtain⟨_,_,j,g⟩:=af (h.W x m).row _ b;exact absurd (ar hb g) (by decide)}
end
def MAt.ad{g:ZB}{m:Mst}(h:MAt w b g m)(hb:w'.heap[b]?=w.heap[b]?)(i:A (z w)<=A (z w')):MAt w' b g m:=
 ⟨lj h.1 i,λj f=>⟨(cq (a:=(T b j Z)) hb).k (h.2 j f).1,(NF (a:=(T b j Z)) hb).k (h.2 j f).2⟩⟩
def TB (w:E)(g:Nat)(t:Turn):Prop:=w.heap[g]?=Q (N #[ZF t.K,J I t.M,U t.H,ZF t.ask,U t.e,J I t.j] 116 (0,0))
def TB.y{t:Turn}(h:TB w g t):g<A (z w)/\ZW w (T g 0 Z)=Q (ZF t.K)/\ZW w (T g 1 Z)=Q (J I t.M)/\ZW w (T g 2 Z)=Q (U t.H)/\ZW w (T g 3 Z)=Q (ZF t.ask)/\ZW w (T g 4 Z)=Q (U t.e)/\ZW w (T g 5 Z)=Q (J I t.j)/\∀j,ZX w (T g j Z)=ZA:=by unfold TB at h;refine⟨ah h,?_,?_,?_,?_,?_,?_,λj=>?_⟩;all_goals simp[World.cell?,World.frozen?,h]
def TB.put{u:Turn}(h:TB w g u)(t:Turn):TB (fY w g t) g t:=
 aw (aw (aw (aw (aw (aw h (j:=0) _) (j:=1) _) (j:=2) _) (j:=3) _) (j:=4) _) (j:=5) _
def TB.ac{t:Turn}(h:TB w g t)(f:zt b w w')(i:g≠b):TB w' g t:=(f.p g (ah h) i).k h
def ContOk (S:xl)(tg:Nat)(b:List aD)(H:Halt):Prop:=∀(y:Nat->aD) (n:Nat),B b<=n->(∀i,i<B b->y i=yL b i)->eC (S.f1 tg).q (S.f1 tg).h y n H=cA (S.f1 tg).q (S.f1 tg).h y n 2001 0 0 0 []
def ContOk.turn{b:List aD}{H:Halt}{m:Mst}(h:ContOk S tg b H)(g:fh m H)(hL:gP (B b) H):m.t=bK S tg b:=by rw[<-oP (f:=(S.f1 tg).q) (yh:=(S.f1 tg).h) (y:=yL b) g hL];exact h (yL b) (B b) ly λ_ _=>rfl
def ContOk.step{b:List aD}{a:Bool}{s:List F_}{st:Nat}{g:Halt}{r:aD}(h:ContOk S tg b (.inr (a,nm,s,p,st,(B b+1))))(j:∀y n,B b+1<=n->y (B b+1 - 1)=r->eC (S.f1 tg).q (S.f1 tg).h y n (.inr (a,nm,s,p,st,(B b+1)))=eC (S.f1 tg).q (S.f1 tg).h y n g):ContOk S tg (b++[r]) g:=by intro y n hn f;rw[cM,AI] at hn f;rw[<-j y n hn (by rw[QR,f _ (eL _),GJ])];exact h y n (by omega) λi hi=>by rw[f i (by omega),Cb b r hi]
structure RI (w0:E)(S:xl)(mb mp:Nat)(s0 s1:ZB)(w:E)(n:Nat)(y_:List F_)(eb tg:Nat)(nm:F_)(b:Nat)(cv:ZB)(tb:Nat)(made0:List k_)(G0:F_->Nat)(V0:F_->ZB)(R0:Out (Turn × List Lk))(wr:E)(ys:List aD)(ls:List Lk)(q_:List k_)(G:F_->Nat)(V:F_->ZB)(mk md v:ZB)(m:Mst)(H:Halt):Prop where
 mi:MI w0 S mb mp s0 s1 wr y_ y_ q_ G V mk md
 pg:PG S y_ q_
 rg:RG S q_ ys ls
 room:eX S y_ q_ (201 - (B ys))
 eu:EU w0 S wr eb nm tg G ls v q_ V
 ma:MAt wr b cv m
 ty:∃cs,wr.heap[b]?=Q (N cs 240 (0,0))
 tb:TB wr tb m.t
 st:fh m H
 lk:gP (B ys) H
 co:ContOk S tg ys H
 run:bT S (aT S n y_) tg (201 - (B ys)) q_ ys ls=R0
 le:B ys<=200
 ext:Ext (A (z w)) made0 q_ G0 G V0 V
 kx:KX (A (z w0)) (λi=>i=eb) w wr
 vn:∀k,v.ownBlock=Q k->A (z w)<=k
def Ig (w0:E)(S:xl)(mb mp:Nat)(s0 s1:ZB)(y_:List F_)(q_:List k_)(G:F_->Nat)(V:F_->ZB)(w:E)(f tg:Nat)(nm:F_)(e:Ending)(w':E):Out (Turn × List Lk)->Prop
 |.inl (made',x)=>e=ZI (.tuple #[])/\∃b j g h l,MI w0 S mb mp s0 s1 w' y_ y_ made' b j g h/\EntAt w0 S b w' f l ⟨nm,3,x.1.M,x.1.H,tg,x.2⟩/\(∀y∈made',b y.e≠f)/\(∀k,l.ownBlock=Q k->A (z w)<=k)/\Ext (A (z w)) q_ made' G b V j/\KX (A (z w0)) (λi=>i=f) w w'
 |.inr (.inl c)=>∃v,e=.panicked [{ v:=.iface 220 (ZJ #[v]),recovered:=ZA }]/\ZY w' (A (z w0)) 9 1 v (B c) (bO c)/\Below (A (z w0)) w w'
 |.inr (.inr d)=>e=.panicked [{ v:=.iface 222 (ZJ #[U d]),recovered:=ZA }]/\Below (A (z w0)) w w'
section
variable {w0:E}{S:xl}{a0 a1:O_}{c0 c1 mb mp:Nat}{y_:List F_}
def FV (C:Ctx w0 S a0 c0 a1 c1)(n:Nat)(HL:jX w0 S mb mp (Y a0 S.n0 c0) (Y a1 S.n1 c1) n)(o:List k_)(G0:F_->Nat)(V0:F_->ZB)(JN JQ:ZB)(w:E)(q tg:Nat)(nm:F_)(Kt:B y_+n=60)(h:MI w0 S mb mp (Y a0 S.n0 c0) (Y a1 S.n1 c1) w y_ y_ o G0 V0 JN JQ)(hp:PG S y_ o)(sm:eX S y_ o 201)(Kp:tg<S.n1)(hu:EU w0 S w q nm tg G0 [] (Y Z 0 0) o V0):Qw Pg 192 #[.pointer (Q (T mb 0 Z)),.pointer (Q (T q 0 Z))] w λe w'=>Ig w0 S mb mp (Y a0 S.n0 c0) (Y a1 S.n1 c1) y_ o G0 V0 w q tg nm e w' (bT S (aT S n y_) tg 201 o [] []):=by
 obtain⟨Kc,hc1,Ke⟩:=bJ (C.ok.q tg Kp);obtain⟨⟨av,j_,O,ZN⟩,Fk,Fd,fd,-,-⟩:=hu;obtain⟨ZO,R,rfl,ur⟩:∃ZO R,av=Q (T ZO R Z)/\Q_ w0 ZO R (S.f1 tg).h (S.f1 tg).q:=by
  rcases ZN with h|⟨b,off,e,hr⟩
  {omega};{exact⟨b,off,e,hr⟩}
 obtain⟨hel,-,-,-,-,e4,-,-,-,-⟩:=O.y;have HU:Hid (EU w0 S w q nm tg G0 [] (Y Z 0 0) o V0):=⟨⟨_,_,O,ZN⟩,Fk,Fd,fd,λ_ _ k hk=>(by cases hk),λ_ hl=>absurd hl nj⟩
 have HM:=ae h;have HP:=ae hp;have HRI:=ae ur;have CC:=ae C;have KV:=ae HL;have ZQ:A (z w0)<=A (z w):=h.lt;have JU:Hid (∀W b,Below (A (z w0)) w0 W->A (z w0)<=b->Env W b ZO R (S.f1 tg).h (S.f1 tg).q):=λW b hW hb=>⟨ur.aa hW ly,C.tab.aa hW C.tab.1,C.pow.aa hW ly,lj ur.1 hb,lj C.tab.1 hb,lj C.pow.lt hb⟩
 obtain⟨R0,JR⟩:∃R0,R0=bT S (aT S n y_) tg 201 o [] []:=⟨_,rfl⟩
 rw[<-JR];have Kw:=ae JR;clear h hp ur C HL O ZN Fd fd JR;obtain⟨H0,JV⟩:=sJ (S.f1 tg).q (S.f1 tg).h 2001 0 0 0 [] (by omega) (by omega);have Kj:Hid (Goes (S.f1 tg).q (S.f1 tg).h m0 H0):=.inl ⟨rfl,0,0,0,[],⟨trivial,rfl,by simp,rfl,rfl,rfl,λx hx=>absurd hx nj,by omega,by omega,by omega⟩,JV⟩;have JT:=ae (λy n=>pr (S.f1 tg).q (S.f1 tg).h y n 2001 0 0 0 [] H0 (by omega) rfl JV);clear JV;go_enter func192,ntmps192;go_wp2_with fail;refine(FU ZO R (S.f1 tg).h j_ w).P ?_;rintro e w1⟨b,rfl,hb,Ks,Hx,Kg⟩;have J5:=ae Ks;have Kd:=ae Hx;have B1:=ae Kg;clear Ks Hx Kg e4;go_wp2_with fail;refine(qD b ZO R (S.f1 tg).h j_ (S.f1 tg).q m0 H0 ⟨ZA,0,⟨#[]⟩⟩ _ J5 (JU _ _ (HM.ak.k (B1.P ZQ)) (nX ZQ hb)) rfl (by omega) Kc Kj).P ?_;rintro e w2⟨ZM,rfl,Km,J6,ex⟩;have JI:=ae Km;have Kk:=ae J6;have O2:=ae ex;have Kn:Hid (∃ZT,w2.heap[b]?=Q (N ZT 240 (0,0))):=by obtain⟨ZT,Z9⟩:=Kd.i;exact ex.ty ZT _ _ Z9
 have Kz:A (z w1)<=A (z w2):=ex.size;have B2:=ae (B1.k (ex.aa hb B1.size));clear Km J6 ex;simp only[Turn.v];obtain⟨W3,ph⟩:∃W:E,ZV w2 (N #[ZF ZM.t.K,J I ZM.t.M,U ZM.t.H,ZF ZM.t.ask,U ZM.t.e,J I ZM.t.j] 116)=W:=⟨_,rfl⟩
 obtain⟨A3,-,-⟩:=nb1 ph;have n8:=ae ph;clear ph;have JP:Hid (TB W3 (A (z w2)) ZM.t):=by rw[<-n8.i];exact gM _ _
 have ld:b<A (z w2):=JI.lt;go_wp2;rw[n8.i];clear n8;obtain⟨tb,J9⟩:∃tb,tb=A (z w2):=⟨_,rfl⟩
 rw[<-J9] at JP ⊢;have Ku:A (z w)<=tb:=by have:=B2.size;omega
 have hbtb:b<tb:=by omega
 have B3:=ae (B2.k (A3.P B2.size));have Ki:Hid (RI w0 S mb mp (Y a0 S.n0 c0) (Y a1 S.n1 c1) w n y_ q tg nm b (Y (Q (T ZO R Z)) (S.f1 tg).h j_) tb o G0 V0 R0 W3 [] [] o G0 V0 JN JQ (Y Z 0 0) ZM H0):=
  ⟨HM.aa B3 ly,HP,iv S o,sm,HU.aa B3 ly,JI.aa A3 ld,(by obtain⟨ZT,Z9⟩:=Kn.i;exact⟨ZT,(A3.p b ld).k Z9⟩),JP,Kk,(JT (yL []) 0).2,λy n _ _=>(JT y n).1.c,Kw.c,DW _,Ext.refl _ _ _ _,KX.l B3 ly ZQ,λk hk=>(by cases hk)⟩
 clear J9 JP A3 B2 J5 Kd JI Kn Kk O2 Kj JT B1 HM HU sm HP B3 Kz ld;go_loopg [] 202 (λg wr=>∃p ZP q_ G V mk md v m H,Hid (RI w0 S mb mp (Y a0 S.n0 c0) (Y a1 S.n1 c1) w n y_ q tg nm b (Y (Q (T ZO R Z)) (S.f1 tg).h j_) tb o G0 V0 R0 wr p ZP q_ G V mk md v m H)/\201 - (B p)<=g);case atStart=>exact⟨[],[],o,G0,V0,JN,JQ,_,ZM,H0,Ki,by simp⟩
 case round =>
  clear Ki;obtain⟨p,ZP,q_,G,V,mk,md,v,m,H,f,hg⟩:=hrel;have HT:=ae (f.co.turn f.st f.lk);obtain⟨tbl,t0,t1,t2,t3,t4,t5,tf⟩:=f.tb.y;obtain⟨JJ,JH,Id,JO,Fm,JL⟩:=al6 tf;clear tf;have hbw:A (z w)<=b:=hb;have KH:q≠b:=by omega
  have P:q≠tb:=by omega
  cases ho:m.t.K with
  |true =>
   rw[ho] at t0;have KO:Hid (R0=.inl (q_,(m.t,ZP))):=by show _=_;rw[<-f.run,show 201 - (B p)=(200 - (B p))+1 by have:=f.le;omega,bT,<-HT.i,eT ho]
   obtain⟨⟨ax,cx,O,ZN⟩,-⟩:=f.eu;obtain⟨hel2,-,-,e2,e3,-,-,-,-,ef⟩:=O.y;have ef2:=ef 2;have ef3:=ef 3;have JS:=ae O;have KU:=ae ZN;clear O ZN ef;obtain⟨code,bt⟩:∃code,code=m.t.M:=⟨_,rfl⟩
   obtain⟨text,aq⟩:∃text,text=m.t.H:=⟨_,rfl⟩
   rw[<-bt] at t1;rw[<-aq] at t2;have HC:=ae bt;have HX:=ae aq;clear bt aq;go_wp2_with fail;clear t0 t3 t4 t5 JJ JH Id JO Fm JL;refine wp_region_held_drew (S:=λV=>ZW V (T tb 1 Z)=Q (J I code)/\ZW V (T tb 2 Z)=Q (U text)) (by as_aux_lemma=>kernel_rfl) ⟨t1,t2⟩ λhS=>?_;have HS:=ae hS;clear hS;iterate 9
    first|refine aN 0 (v:=?_) rfl rfl (by as_aux_lemma=>kernel_rfl) (λ_ _ _ h=>h) rfl ?_ HS ?_|refine aN 4 (v:=?_) rfl rfl (by as_aux_lemma=>kernel_rfl) (λ_ _ _ h=>h) rfl ?_ HS ?_
    rotate_left
    ·(rintro wz⟨s0,s1⟩;go_simp)
     (try with_reducible rfl)
    (try simp only[p_,z_])
   have S5:Hid ((wr.drew.setCell (T q 2 Z) (J I code)).cell? (T tb 1 Z)=Q (J I code)/\(wr.drew.setCell (T q 2 Z) (J I code)).cell? (T tb 2 Z)=Q (U text)):=⟨(K_ _ _ _ _ P).k HS.1,(K_ _ _ _ _ P).k HS.2⟩
   refine aL (i:=9) rfl (by as_aux_lemma=>kernel_rfl) λK hK=>?_;go_simp;refine hK _ _ S5 ?_;clear hK K HS
   (try simp only[p_,z_])
   have HS:=S5;iterate 3
    refine aN 10 (v:=?_) rfl rfl (by as_aux_lemma=>kernel_rfl) (λ_ _ _ h=>h) rfl ?_ HS ?_;rotate_left
    ·(rintro wz⟨s0,s1⟩;go_simp)
     (try with_reducible rfl)
    (try simp only[p_,z_])
   have S6:Hid (((wr.drew.setCell (T q 2 Z) (J I code)).setCell (T q 3 Z) (U text)).cell? (T tb 1 Z)=Q (J I code)/\((wr.drew.setCell (T q 2 Z) (J I code)).setCell (T q 3 Z) (U text)).cell? (T tb 2 Z)=Q (U text)):=⟨(K_ _ _ _ _ P).k S5.1,(K_ _ _ _ _ P).k S5.2⟩
   refine aL (i:=13) rfl (by as_aux_lemma=>kernel_rfl) λK hK=>?_;go_simp;refine hK _ _ S6 ?_;clear hK K
   (try simp only[p_,z_])
   refine wpAnyH_done (by as_aux_lemma=>kernel_rfl) ?_ _;have OE:Hid (zt q wr (ZU (ZU wr (T q 2 Z) (J I code)) (T q 3 Z) (U text)).drew):=(ce (ce (zt.refl q wr) 2 _) 3 _).drew;have Kf:Hid (EntBlk (ZU (ZU wr (T q 2 Z) (J I code)) (T q 3 Z) (U text)).drew q nm 3 code text (Y ax (S.f1 tg).h cx) v 0):=aw (aw JS (j:=2) _) (j:=3) _;generalize World.drew (World.setCell (World.setCell wr _ _) _ _)=W6 at OE Kf ⊢;go_end0;rw[KO.i];refine⟨rfl,G,V,mk,md,v,f.mi.entOnly JS f.eu.free Fk OE,⟨⟨_,by rw[<-HC.i,<-HX.i];exact Kf,by rw[oF,eT rfl];exact⟨Kp,_,_,rfl,KU⟩⟩,Fk,b9 f.eu.row λk hk=>?_⟩,f.eu.free,f.vn,f.ext,f.kx.k (KX.of_only (X:=λi=>i=q) OE rfl f.mi.lt Fk) (λ_ _ h=>h)⟩;obtain⟨_,hl,ZT,Z9⟩:=af f.eu.row k hk;exact OE.p k hl λe=>absurd (ar JS (e ▸ Z9)) (by decide)
  |false =>
   obtain⟨a,ZZ,s2,pp,st,l,rfl⟩:=oQ f.st ho;have el:l=B p+1:=f.lk;subst el;obtain⟨DQ,mv,JG,-⟩:=f.st;have hylt:B p<200:=by have:=mv.lk;omega
   have HTT:=ae DQ;rw[DQ] at t0 t1 t2 t3 t4 t5;simp only at t0 t1 t2 t3 t4 t5;have HSM:=ae mv;have ro:=ae JG;have JZ:Hid (bK S tg p=⟨ZA,0,⟨#[]⟩,a,ZZ,st⟩):=HT.c.k DQ;have J8:B ZP<=200:=by have:=f.rg.len;omega
   clear DQ mv JG;have Kh:Hid (∀k,v.ownBlock=Q k->k≠b/\k≠tb):=λk hk=>by obtain⟨_,_,ZT,Z9⟩:=af f.eu.row k hk;obtain⟨cs2,Ke⟩:=f.ty;exact⟨λe=>absurd (ar Ke (e ▸ Z9)) (by decide),λe=>absurd (ar (show wr.heap[tb]?=_ from f.tb) (e ▸ Z9)) (by decide)⟩
   cases a
   focus
    go_wp2_with fail;clear t0 t1 t2 t3 t4 t5 JJ JH Id JO Fm JL;refine(sY.1 CC wr q tg nm ZP v ⟨ZA,0,⟨#[]⟩,ZA,ZZ,st⟩ f.mi f.eu J8 rfl).P ?_;rintro e w3⟨rfl,v',la⟩;have ZS:=ae la;clear la;obtain⟨L,n9⟩:∃L,L=fL S ZZ:=⟨_,rfl⟩
    have Ko:=ae n9;simp only at ZS ⊢;rw[<-n9] at ZS ⊢;clear n9;have NX:Hid (bT S (aT S n y_) tg (200 - (B p)) q_ (p++[⟨L,0,⟨#[]⟩⟩]) (ZP++[⟨ZZ,ZA,L⟩])=R0):=by show _=_;have:=f.run;rw[show 201 - (B p)=(200 - (B p))+1 by omega,bT,JZ.i,eI (by simp),eT rfl,<-Ko.i] at this;exact this
    have JY:=ae f.pg;have Bk:Hid (RG S q_ (p++[⟨L,0,⟨#[]⟩⟩]) (ZP++[⟨ZZ,ZA,L⟩])):=f.rg.add (by rw[Ko.i];exact lv _ _) ro (λh=>by cases h);have Kr:Hid (eX S y_ q_ (200 - (B p))):=by have:=f.room;unfold eX at this ⊢;show _<=_;omega
    have J7:=ae f.ext;have qr:Hid ((⟨L,0,⟨#[]⟩⟩:aD).H.size<=2000):=DW _
   rotate_left;focus
    go_wp2_with fail;clear t0 t1 t2 t3 t4 t5 JJ JH Id JO Fm JL;refine(sY.2 CC n KV wr q tg nm ZP v ⟨ZA,0,⟨#[]⟩,ZH,ZZ,st⟩ Kt f.mi f.pg (by have:=f.room;unfold eX at this ⊢;omega) f.eu J8 rfl ro).P ?_;intro e w3 Z8;simp only at Z8;have s:=f.run;rw[show 201 - (B p)=(200 - (B p))+1 by omega,bT,JZ.i,eI (by simp),eI (by simp)] at s;simp only at s;rcases hr:aT S n y_ q_ ZZ with⟨ZR,x⟩|c|d;rotate_left
    ·rw[hr] at Z8 s
     obtain⟨u,rfl,h1,h2⟩:=Z8;subst s;go_wp2_with fail;exact⟨rfl,u,rfl,h1,f.kx.aa.k h2⟩
    ·rw[hr] at Z8 s
     obtain⟨rfl,h2⟩:=Z8;subst s;go_wp2_with fail;exact⟨rfl,rfl,f.kx.aa.k h2⟩
    rw[hr] at Z8 s;dsimp only at s;obtain⟨rfl,G2,V2,mk2,md2,v',la,JK⟩:=Z8;obtain⟨th,-,hx,JX⟩:=dm CC.ok n y_ q_ ZZ ZR x f.pg ro hr;have DE:=iq S n y_ q_ ZZ ZR x hr;have ZS:=ae la;have NX:=ae s;have JY:=ae th;have JM:gF x=⟨decide (¬ x.L=2),x.M,x.H⟩:=rfl;have Bk:Hid (RG S ZR (p++[gF x]) (ZP++[⟨ZZ,ZH,ZA⟩])):=(f.rg.P JK.mem).add (lw (th.W x hx)) ro (λ_=>⟨x,hx,JX⟩);have Kr:Hid (eX S y_ ZR (200 - (B p))):=by have:=f.room;unfold eX at this ⊢;unfold fO at DE;show _<=_;omega
    have J7:=ae (f.ext.k JK f.kx.aa.size);have qr:Hid ((gF x).H.size<=2000):=(th.W x hx).tx;rw[JM] at NX Bk qr;clear la s th hx JX DE JK hr JM;obtain⟨kb,Kb⟩:∃kb,kb=decide (¬ x.L=2):=⟨_,rfl⟩
    rw[<-Kb] at NX Bk qr ⊢;clear Kb
   all_goals
    have BK:Hid (w3.heap[b]?=wr.heap[b]?):=by obtain⟨ZT,Z9⟩:=f.ty;exact ZS.2.2.1.ad b _ _ _ Z9 (by decide) (by decide) (by decide) λh=>by rcases h with h|h;exact KH h.c;exact(Kh b h).1 rfl
    have TK:Hid (TB w3 tb m.t):=(ZS.2.2.1.ad tb _ _ _ f.tb (by decide) (by decide) (by decide) λh=>by rcases h with h|h;exact P h.c;exact(Kh tb h).2 rfl).k f.tb;have Kv:A (z wr)<=A (z w3):=ZS.2.2.1.aa.size;have KP:=ae (f.ma.ad BK Kv);have KM:Hid (∃ZT,w3.heap[b]?=Q (N ZT 240 (0,0))):=by obtain⟨ZT,Z9⟩:=f.ty;exact⟨ZT,BK.k Z9⟩
    go_wp2_with fail;refine(sL b ZO R (S.f1 tg).h j_ (S.f1 tg).q m _ ZZ s2 pp st (B p+1) ⟨_,_,_⟩ _ KP (JU _ _ ZS.1.ak (nX ZQ hb)) f.st (by omega) qr (by omega) Kc).P ?_;rintro e w4⟨m2,H2,rfl,J4,J0,Ka,JW,M⟩;have KZ:=ae J4;have KQ:=ae J0;have Kx:=ae Ka;have KT:=ae (f.co.step JW);have O4:=ae M;obtain⟨cs3,ZL⟩:=KM.i;have Kq:=ae (ZS.1.ac ZL (by decide) (nX ZQ hb) M);have KN:=ae (ZS.2.1.ac ZL (by decide) M);have At:=ae (TK.ac M (by omega));have KJ:=ae (M.ty _ _ _ ZL);have K4:=ae ((f.kx.k ZS.2.2.1 (λi hi h=>by rcases h with h|h;exact h;exact absurd (f.vn i h) (by omega))).k (KX.of_only (X:=λi=>i=b) M rfl ZS.1.lt (nX ZQ hb)) (λi hi h=>by have e2:i=b:=h;omega));have La:Hid (∀k,v'.ownBlock=Q k->A (z w)<=k):=λk hk=>by
     rcases ZS.2.2.2 k hk with h|h
     ·exact f.vn k h
     ·exact nX f.kx.aa.size h
    clear J4 J0 Ka JW M ZL;obtain⟨ul,u0,u1,u2,u3,u4,u5,uf⟩:=At.y;obtain⟨uf0,uf1,uf2,uf3,uf4,uf5⟩:=al6 uf;clear uf;obtain⟨g,rfl⟩:∃g,gk=g+1:=⟨gk - 1,by omega⟩
    have KI:=ae (At.put m2.t);have OP:Hid (zt tb w4 (fY w4 tb m2.t)):=vf m2.t;have Kl:A (z w0)<=tb:=nX ZQ Ku;have D:∀r:aD,(p++[r]).length=B p+1:=λr=>by simp
    have Ky:Hid (RI w0 S mb mp (Y a0 S.n0 c0) (Y a1 S.n1 c1) w n y_ q tg nm b (Y (Q (T ZO R Z)) (S.f1 tg).h j_) tb o G0 V0 R0 (fY w4 tb m2.t) (p++[_]) (ZP++[_]) _ _ _ _ _ v' m2 H2):=
     ⟨Kq.ac At (by decide) Kl OP,JY,Bk,(by rw[D,show 201 - (B p+1)=200 - (B p) by omega];exact Kr),KN.ac At (by decide) OP,KZ.boxed (by omega) m2.t,(by obtain⟨ZT,Z9⟩:=KJ.i;exact⟨ZT,(OP.p b (ah Z9) (by omega)).k Z9⟩),KI,KQ,(by rw[D];exact Kx),KT,(by rw[D,show 201 - (B p+1)=200 - (B p) by omega];exact NX),(by rw[D];omega),J7,K4.k (KX.of_only (X:=λi=>i=tb) OP rfl Kq.lt Kl) (λi hi h=>by have e2:i=tb:=h;omega),La⟩
    simp only[Turn.v];go_wp2;go_roundg g;case measure=>omega
    case rel=>exact⟨_,_,_,_,_,_,_,_,_,_,Ky,by rw[D];omega⟩
end
structure KS (Z9:Nat)(X:Nat->Prop)(w w':E):Prop where
 aa:Below Z9 w w'
 ad:∀i cs t fz,w.heap[i]?=Q (N cs t fz)->t≠9->t≠188->t≠141->¬ X i->w'.heap[i]?=w.heap[i]?
def KS.k{ZL:Nat->Prop}{b:E}(h:KS Z9 X w w')(k:KS Z9 ZL w' b)(g:∀i,i<A (z w)->ZL i->X i):KS Z9 X w b:=
 ⟨h.aa.k k.aa,λi j t fz hi h1 h2 f hX=>by
  have e:=h.ad i j t fz hi h1 h2 f hX;rw[<-e]
  exact k.ad i j t fz (e.k hi) h1 h2 f λl=>hX (g i (ah hi) l)⟩
def KS.to{b:E}(h:KS Z9 X w w')(k:KS Z9 XN w' b):KS Z9 X w b:=h.k k λ_ _ h=>h.elim
def KS.l (h:Below C w w')(b:A (z w)<=C)(f:Z9<=A (z w)):KS Z9 X w w':=
 ⟨h.P (nX f b),λi _ _ _ hi _ _ _ _=>h.p i (lj (ah hi) b)⟩
def KS.of_grown{row:Option Nat}(h:w.grownBy w' row)(l:Z9<=A (z w))(g:∀j,row=Q j->Z9<=j/\(X j\/∀f t fz,w.heap[j]?=Q (N f t fz)->t=9\/t=188\/t=141)):KS Z9 X w w':=by
 refine⟨⟨h.os,h.tape,h.output,h.size,λk n=>h.p k (lj n l) λe=>?_⟩,λi f t fz hi h1 h2 m hX=>h.p i (ah hi) λe=>?_⟩;{have:=(g k e.c).1;omega};{rcases(g i e.c).2 with b|b;{exact hX b};{rcases b f t fz hi with e|e|e;{exact h1 e};{exact h2 e};{exact m e}}}
def KS.setCell (w:E){j:Nat}(hb:Z9<=b)(f:X b\/∀g t fz,w.heap[b]?=Q (N g t fz)->t=9\/t=188\/t=141)(v:ZB):KS Z9 X w (ZU w (T b j Z) v):=by
 refine⟨(a8 Z9 w).setCell hb v,λi g t fz hi h1 h2 h hX=>?_⟩;refine qh _ _ _ _ λe=>?_;simp at e;subst e;rcases f with f|f;{exact hX f};{rcases f g t fz hi with e|e|e;{exact h1 e};{exact h2 e};{exact h e}}
def ShBox (w:E)(hb:Nat)(s0 s1 md or st:ZB)(f:Int)(sx:F_)(g:ZB)(b:Bool):Prop:=w.heap[hb]?=Q (N #[s0,s1,md,or,st,J I f,U sx,g,ZF b] 141 (0,0))
def ShBox.y{s0 s1 st g:ZB}{f:Int}{b:Bool}(h:ShBox w hb s0 s1 md or st f sx g b):hb<A (z w)/\ZW w (T hb 0 Z)=Q s0/\ZW w (T hb 1 Z)=Q s1/\ZW w (T hb 2 Z)=Q md/\ZW w (T hb 3 Z)=Q or/\ZW w (T hb 4 Z)=Q st/\ZW w (T hb 5 Z)=Q (J I f)/\ZW w (T hb 6 Z)=Q (U sx)/\ZW w (T hb 7 Z)=Q g/\ZW w (T hb 8 Z)=Q (ZF b)/\∀j,ZX w (T hb j Z)=ZA:=by unfold ShBox at h;refine⟨ah h,?_,?_,?_,?_,?_,?_,?_,?_,?_,λj=>?_⟩;all_goals simp[World.cell?,World.frozen?,h]
def ShBox.ad{s0 s1 st g:ZB}{f:Int}{b:Bool}(h:ShBox w hb s0 s1 md or st f sx g b)(i:w'.heap[hb]?=w.heap[hb]?):ShBox w' hb s0 s1 md or st f sx g b:=i.k h
structure SM where
 e:F_
 M:Int
 H:F_
 V:List Lk
 sv:ZB
 done:Bool
def smV (m:SM):List ZB:=[U m.e,J I m.M,U m.H,Y Z 0 0,m.sv,ZF m.done]
def eG (b:List Lk):List ZB:=b.flatMap λl=>[U l.e,ZF l.ask,ZF l.has]
def fI (L:List SM)(t:F_):Option Nat:=L.findIdx? λm=>m.e.toList == t.toList
structure fM (L:List SM)(y_:List F_)(q_:List k_):Prop where
 nod:L.Pairwise λm m'=>m.e≠m'.e
 len:B L=B q_+B y_
 got:∀x∈q_,∃m∈L,m.e=x.e/\m.done=ZH/\m.M=(dt x).M/\m.H=(dt x).H/\m.V=x.D
 mkg:∀t∈y_,∃m∈L,m.e=t/\m.done=ZA
 all:∀m∈L,(∃x∈q_,x.e=m.e)\/m.e∈y_
structure SI (w0:E)(hb:Nat)(s0 s1:ZB)(w:E)(y_:List F_)(q_:List k_)(L:List SM)(md or st:ZB):Prop where
 ak:Below (A (z w0)) w0 w
 hbB:A (z w0)<=hb
 ab:ShBox w hb s0 s1 md or st 0 ⟨#[]⟩ (Y Z 0 0) ZA
 X:ZY w (A (z w0)) 188 6 md (B L) (L.flatMap smV)
 ror:ZY w (A (z w0)) 9 1 or (B q_) (bO (q_.map (·.e)))
 rst:ZY w (A (z w0)) 9 1 st (B y_) (bO y_)
 apart:∀k,or.ownBlock=Q k->st.ownBlock≠Q k
 V:∀m∈L,m.done=ZH->ZY w (A (z w0)) 191 3 m.sv (B m.V) (eG m.V)
section
variable {w0 w w':E}{hb:Nat}{s0 s1 md or st:ZB}{y_:List F_}{q_:List k_}{L:List SM}
def SI.lt (h:SI w0 hb s0 s1 w y_ q_ L md or st):A (z w0)<=A (z w):=h.ak.size
def SI.aa (h:SI w0 hb s0 s1 w y_ q_ L md or st)(b:Below C w w')(f:A (z w)<=C):SI w0 hb s0 s1 w' y_ q_ L md or st:=
 ⟨h.ak.k (b.P (nX h.lt f)),h.hbB,h.ab.ad (b.p _ (lj (ah h.ab) f)),J_ h.X b f,J_ h.ror b f,J_ h.rst b f,h.apart,λm g i=>J_ (h.V m g i) b f⟩
end
def eh:Option Nat->Int
 |some i=>(i:Int)
 |none=>-1
def ja (g:B_)(n:Nat)(t:F_):aF g n t=(atI g n t).isSome:=by unfold aF atI;rw[OH,List.find?_isSome,TI]
def vV{g:B_}{t:F_}(h:aF g n t=ZA):atI g n t=Z:=by rw[ja] at h;exact Option.isNone_iff_eq_none.1 (by simpa using h)
def sZ{g:B_}{k:Nat}{t:F_}(f:k<n)(h1:((g k).toList == t.toList)=ZH)(h2:aF g k t=ZA):atI g n t=Q k:=by
 unfold atI;rw[List.find?_range_eq_some];refine⟨h1,E4.2 f,λj b=>?_⟩;cases e:((g j).toList == t.toList) with
 |false=>rfl
 |true =>rw[eO b e] at h2;cases h2
def rP (b off n0 c0:Nat)(a1:O_)(n1 c1:Nat)(f:Nat->Source)(t:F_)(w:E)(hn:(n0:Int)<=1048576)(o:RowSource w b off n0 f):Qw Pg 27 #[ZJ #[Y (Q (T b off Z)) n0 c0,Y a1 n1 c1],U t] w λe w'=>e=ZI (J I (eh (atI (nm0 f) n0 t)))/\Below (A (z w)) w w':=by
 obtain⟨W,g⟩:∃W:E,ZV w (N #[Y (Q (T b off Z)) n0 c0,Y a1 n1 c1] 29)=W:=⟨_,rfl⟩
 obtain⟨n,-,-⟩:=nb1 g;have h:=ae g;clear g;have q:=ae (o.aa n ly);have k1:ZW W (T (A (z w)) 0 Z)=Q (Y (Q (T b off Z)) n0 c0):=by rw[<-h.i];simp
 clear o;obtain⟨R,hR⟩:∃R,R=eh (atI (nm0 f) n0 t):=⟨_,rfl⟩
 rw[<-hR];have p:=ae hR;clear hR;go_enter WV,VT;go_wp2;rw[h.i];clear h;go_loop [5] (λi=>∃k:Nat,k<=n0/\i=J I k/\Hid (aF (nm0 f) k t=ZA)) (λi=>n0 - (intOf i).toNat);case atStart=>exact⟨0,by omega,rfl,rfl⟩
 case round =>
  obtain⟨k,hk,rfl,m⟩:=hrel;by_cases j:k<n0
  ·obtain⟨d0,d1⟩:=q.2 k j;cases hb:((f k).e.toList == t.toList) with
   |true =>have l:=ae hb;go_wp2;go_ret;exact⟨by rw[p.i,sZ j l.i m.i];rfl,n⟩
   |false =>have l:=ae hb;go_wp2;exact⟨⟨k+1,by omega,by go_num,by show aF (nm0 f) (k+1) t=ZA;rw[gI,m.i];exact l⟩,by simp[intOf];omega⟩
  ·have e:k=n0:=by omega
   subst e;go_wp2;go_ret;exact⟨by rw[p.i,vV m.i];rfl,n⟩
def rQ (a0:O_)(c0:Nat)(a1:O_)(n1 c1:Nat)(t:F_)(w:E):Qw Pg 27 #[ZJ #[Y a0 0 c0,Y a1 n1 c1],U t] w λe w'=>e=ZI (J I (-1))/\Below (A (z w)) w w':=by
 have b:=ae ((BS w).alloc ly (N #[Y a0 0 c0,Y a1 n1 c1] 29));go_enter WV,VT;go_wp2;go_loop [5] (λi=>i=J I 0) (λ_=>0);case atStart=>rfl
 case round =>subst hrel;go_wp2;go_ret;exact⟨rfl,b⟩
def iP (a0:O_)(n0 c0:Nat)(a1:O_)(n1 c1:Nat)(f:Nat->Source)(t:F_)(w:E)(hn:(n0:Int)<=1048576)(g:Qx w a0 n0 f):Qw Pg 27 #[ZJ #[Y a0 n0 c0,Y a1 n1 c1],U t] w λe w'=>e=ZI (J I (eh (atI (nm0 f) n0 t)))/\Below (A (z w)) w w':=by
 rcases g with rfl|⟨b,off,rfl,h⟩
 {exact rQ a0 c0 a1 n1 c1 t w};{exact rP b off n0 c0 a1 n1 c1 f t w hn h}
def rR (a0:O_)(n0 c0 b off n1 c1:Nat)(f:Nat->Target)(t:F_)(w:E)(hn:(n1:Int)<=1048576)(o:RowTarget w b off n1 f):Qw Pg 28 #[ZJ #[Y a0 n0 c0,Y (Q (T b off Z)) n1 c1],U t] w λe w'=>e=ZI (J I (eh (atI (nm1 f) n1 t)))/\Below (A (z w)) w w':=by
 obtain⟨W,g⟩:∃W:E,ZV w (N #[Y a0 n0 c0,Y (Q (T b off Z)) n1 c1] 29)=W:=⟨_,rfl⟩
 obtain⟨n,-,-⟩:=nb1 g;have h:=ae g;clear g;have q:=ae (o.aa n ly);have k1:ZW W (T (A (z w)) 1 Z)=Q (Y (Q (T b off Z)) n1 c1):=by rw[<-h.i];simp
 clear o;obtain⟨R,hR⟩:∃R,R=eh (atI (nm1 f) n1 t):=⟨_,rfl⟩
 rw[<-hR];have p:=ae hR;clear hR;go_enter WU,VR;go_wp2;rw[h.i];clear h;go_loop [5] (λi=>∃k:Nat,k<=n1/\i=J I k/\Hid (aF (nm1 f) k t=ZA)) (λi=>n1 - (intOf i).toNat);case atStart=>exact⟨0,by omega,rfl,rfl⟩
 case round =>
  obtain⟨k,hk,rfl,m⟩:=hrel;by_cases j:k<n1
  ·obtain⟨d0,ka,kc,d1,_⟩:=q.2 k j;cases hb:((f k).e.toList == t.toList) with
   |true =>have l:=ae hb;go_wp2;go_ret;exact⟨by rw[p.i,sZ j l.i m.i];rfl,n⟩
   |false =>have l:=ae hb;go_wp2;exact⟨⟨k+1,by omega,by go_num,by show aF (nm1 f) (k+1) t=ZA;rw[gI,m.i];exact l⟩,by simp[intOf];omega⟩
  ·have e:k=n1:=by omega
   subst e;go_wp2;go_ret;exact⟨by rw[p.i,vV m.i];rfl,n⟩
def rS (a0:O_)(n0 c0:Nat)(a1:O_)(c1:Nat)(t:F_)(w:E):Qw Pg 28 #[ZJ #[Y a0 n0 c0,Y a1 0 c1],U t] w λe w'=>e=ZI (J I (-1))/\Below (A (z w)) w w':=by
 have b:=ae ((BS w).alloc ly (N #[Y a0 n0 c0,Y a1 0 c1] 29));go_enter WU,VR;go_wp2;go_loop [5] (λi=>i=J I 0) (λ_=>0);case atStart=>rfl
 case round =>subst hrel;go_wp2;go_ret;exact⟨rfl,b⟩
def iQ (a0:O_)(n0 c0:Nat)(a1:O_)(n1 c1:Nat)(f:Nat->Target)(t:F_)(w:E)(hn:(n1:Int)<=1048576)(g:Qq w a1 n1 f):Qw Pg 28 #[ZJ #[Y a0 n0 c0,Y a1 n1 c1],U t] w λe w'=>e=ZI (J I (eh (atI (nm1 f) n1 t)))/\Below (A (z w)) w w':=by
 rcases g with rfl|⟨b,off,rfl,h⟩
 {exact rS a0 n0 c0 a1 c1 t w};{exact rR a0 n0 c0 b off n1 c1 f t w hn h}
def oG (m:SM):(smV m).length=6:=rfl
def cJ{j_:Nat}{L:List SM}(h:ZY w b 188 6 (Y (Q (T g 0 Z)) (B L) j_) (B L) (L.flatMap smV)){i:Nat}{m:SM}(f:L[i]?=Q m)(j:Nat)(l:j<6){u:ZB}(n:(smV m)[j]?=Q u):ZW w (T g (i*6+j) Z)=Q u:=by have h1:=h.cells (g:=g) rfl (i*6+j) u (by rw[cT smV 6 oG L i j l m f];exact n);rw[addr_add,IT] at h1;exact h1
def vW{L:List SM}{k:Nat}{t:F_}{m:SM}(b:L[k]?=Q m)(h1:(m.e.toList == t.toList)=ZH)(h2:∀(j:Nat) (m:SM),j<k->L[j]?=Q m->(m.e.toList == t.toList)=ZA):fI L t=Q k:=by have h:=(j5.1 b).1;have g:=(j5.1 b).2;unfold fI;rw[SH];refine⟨h,by rw[g];exact h1,λj f=>?_⟩;rw[TJ];exact h2 j _ f (gq (by omega))
def yB{L:List SM}{t:F_}(h2:∀(j:Nat) (m:SM),j<B L->L[j]?=Q m->(m.e.toList == t.toList)=ZA):fI L t=Z:=by unfold fI;rw[SJ];intro m f;obtain⟨j,b⟩:=PD f;exact h2 j m (j5.1 b).1 b
section
variable {w0:E}{hb:Nat}{s0 s1 md or st:ZB}{y_:List F_}{q_:List k_}{L:List SM}
def vX (w:E)(t:F_)(q:Nat)(c2:ZW w (T hb 2 Z)=Q md)(b:ZY w q 188 6 md (B L) (L.flatMap smV))(hL:B L<=100000):Qw Pg 121 #[.pointer (Q (T hb 0 Z)),U t] w λe w'=>e=ZI (J I (eh (fI L t)))/\w'=w:=by
 obtain⟨R,hR⟩:∃R,R=eh (fI L t):=⟨_,rfl⟩
 rw[<-hR];have y:=ae hR;have o:=ae b;obtain⟨a,c,rfl⟩:∃a c,md=Y a (B L) c:=by
  obtain⟨_,⟨rfl,e⟩|⟨g,j_,x,rfl,_⟩⟩:=b;{exact⟨Z,0,by rw[e]⟩};{exact⟨_,_,rfl⟩}
 obtain⟨n,hn⟩:∃n,n=B L:=⟨_,rfl⟩
 have u:=ae hn;rw[<-hn] at c2 hL;clear b hR hn;go_enter func121,ntmps121;go_wp2;go_loop [5] (λi=>∃k:Nat,k<=n/\i=J I k/\Hid (∀(j:Nat) (m:SM),j<k->L[j]?=Q m->(m.e.toList == t.toList)=ZA)) (λi=>n - (intOf i).toNat);case atStart=>exact⟨0,by omega,rfl,λj m r=>absurd r (NE _)⟩
 case round =>
  obtain⟨k,hk,rfl,s⟩:=hrel;by_cases hlt:k<n
  ·obtain⟨m,l⟩:∃m,L[k]?=Q m:=⟨_,gq (by have:=u.i;omega)⟩
   obtain⟨g,j_,x,e,-⟩:=o.2.resolve_left (λh=>by have:=u.i;omega);simp only[IN,TX] at e;obtain⟨rfl,rfl⟩:=e;have d0:ZW w (T g (k*6) Z)=Q (U m.e):=cJ o l 0 (by omega) rfl;have Z8:=ae l;have hI:(k:Int)<(n:Int):=by omega
   clear l;cases hb2:(m.e.toList == t.toList) with
   |true =>have p:=ae hb2;go_wp2;go_ret;exact⟨by rw[y.i,vW Z8.i p.i s.i];rfl,rfl⟩
   |false =>
    have p:=ae hb2;go_wp2;refine⟨⟨k+1,by omega,by go_num,λj ZZ r f=>?_⟩,by simp[intOf];omega⟩;by_cases e:j=k;{subst e;rw[Z8.i] at f;cases f;exact p};{exact s j ZZ (by omega) f}
  ·have e:k=n:=by omega
   subst e;go_wp2;go_ret;exact⟨by rw[y.i,yB (λj m r l=>s.i j m (by have:=u.i;omega) l)];rfl,rfl⟩
def pI (w:E)(t:F_)(h:SI w0 hb s0 s1 w y_ q_ L md or st)(hL:B L<=100000):Qw Pg 121 #[.pointer (Q (T hb 0 Z)),U t] w λe w'=>e=ZI (J I (eh (fI L t)))/\w'=w:=by obtain⟨-,-,-,c2,-⟩:=h.ab.y;exact vX w t (A (z w0)) c2 h.X hL
end
structure pJ (w0:E)(S:xl)(a0:O_)(a1:O_):Prop where
 src:Qx w0 a0 S.n0 S.f0
 w:Qq w0 a1 S.n1 S.f1
 ok:SpcOk S
def jb (w0:E)(hb:Nat)(w':E)(r:jj)(b:ZB):Prop:=∃s0 s1 md or st,ShBox w' hb s0 s1 md or st r.M r.H b ZH/\ZY w' (A (z w0)) 9 1 b (B r.R) (bO r.R)
structure LExt (n:Nat)(L L':List SM):Prop where
 nam:∀(i:Nat) (m:SM),L[i]?=Q m->∃m':SM,L'[i]?=Q m'/\m'.e=m.e
 sn:∀m∈L',m.done=ZH->(∃m0∈L,m0.done=ZH/\m0.sv=m.sv)\/∀k,m.sv.ownBlock=Q k->n<=k
def LExt.refl (n:Nat)(L:List SM):LExt n L L:=⟨λ_ m h=>⟨m,h,rfl⟩,λm b f=>.inl ⟨m,b,f,rfl⟩⟩
def LExt.k{L o b:List SM}(h:LExt n L o)(k:LExt p o b)(hn:n<=p):LExt n L b:=by
 refine⟨λi m j=>?_,λm j s=>?_⟩;{obtain⟨g,h1,f⟩:=h.nam i m j;obtain⟨t,h2,u⟩:=k.nam i g h1;exact⟨t,h2,u.k f⟩};{rcases k.sn m j s with⟨m0,x,q,e⟩|h1;{rcases h.sn m0 x q with⟨g,h1,r,f⟩|h1;{exact .inl ⟨g,h1,r,f.k e⟩};{exact .inr λk l=>h1 k (by rw[e];exact l)}};{exact .inr λk l=>nX hn (h1 k l)}}
def jx (c:List F_):jj:=⟨6,⟨#[]⟩,c⟩
def jy (d:F_):jj:=⟨7,d,[]⟩
def jl (r:jj)(b:ZB):ZB:=ZJ #[J I r.M,U r.H,b]
def mF (w0:E)(hb:Nat)(s0 s1:ZB)(y_:List F_)(L:List SM)(w:E)(e:Ending)(w':E):Out k_->Prop
 |.inl (made',x)=>∃b h g f,e=ZI (ZJ #[J I (dt x).M,U (dt x).H,Y Z 0 0])/\SI w0 hb s0 s1 w' y_ made' b h g f/\fM b y_ made'/\LExt (A (z w)) L b/\KS (A (z w0)) XN w w'
 |.inr (.inl c)=>∃a k,e=ZI (jl (jx c) (Y a (B c) k))/\jb w0 hb w' (jx c) (Y a (B c) k)/\KS (A (z w0)) XN w w'
 |.inr (.inr d)=>e=ZI (jl (jy d) (Y Z 0 0))/\jb w0 hb w' (jy d) (Y Z 0 0)/\KS (A (z w0)) XN w w'
def fm (S:xl)(y_:List F_)(q_:List k_)(k:Nat):Prop:=B q_+201*dU S y_ q_+k<=50000
def MT (S:xl)(y_:List F_):Prop:=∀t∈y_,(atI (nm1 S.f1) S.n1 t).isSome=ZH
def oe (w0:E)(S:xl)(hb:Nat)(s0 s1:ZB)(n:Nat):Prop:=∀y_ q_ L md or st w nm,B y_+n=60->SI w0 hb s0 s1 w y_ q_ L md or st->fM L y_ q_->PG S y_ q_->fm S y_ q_ 1->MT S y_->aA nm=ZH ->
 Qw Pg 120 #[.pointer (Q (T hb 0 Z)),U nm] w λe w'=>mF w0 hb s0 s1 y_ L w e w' (aT S n y_ q_ nm)
def lE{a:Nat}(h:(Pg.info? e).map (λi=>(i.zero,i.size,i.bytes))=Q (Q Z8,a,b)):∃i,Pg.info? e=Q i/\i.zero=Q Z8/\i.size=a/\i.bytes=b:=by
 cases hi:Pg.info? e with
 |none=>rw[hi] at h;cases h
 |some i =>rw[hi] at h;simp only[U7,L8,LK] at h;exact⟨i,rfl,h⟩
def pK:(Pg.info? 9).map (λi=>(i.zero,i.size,i.bytes))=Q (Q (U ⟨#[]⟩),1,16):=by kernel_rfl
def An:(Pg.info? 119).map (λi=>(i.zero,i.size,i.bytes))=Q (Q (ZJ #[ZF ZA,J I 0,U ⟨#[]⟩]),3,32):=by kernel_rfl
def FW:(Pg.info? 191).map (λi=>(i.zero,i.size,i.bytes))=Q (Q (ZJ #[U ⟨#[]⟩,ZF ZA,ZF ZA]),3,24):=by kernel_rfl
def FX:(Pg.info? 188).map (λi=>(i.zero,i.size,i.bytes))=Q (Q (ZJ #[U ⟨#[]⟩,J I 0,U ⟨#[]⟩,Y Z 0 0,Y Z 0 0,ZF ZA]),6,96):=by kernel_rfl
def mG (b:List aD):List ZB:=b.flatMap λr=>[ZF r.has,J I r.M,U r.H]
def FY (b:List aD)(r:aD):mG (b++[r])=mG b++[ZF r.has,J I r.M,U r.H]:=by simp[mG]
def CF (b:List Lk)(l:Lk):eG (b++[l])=eG b++[U l.e,ZF l.ask,ZF l.has]:=by simp[eG]
def Ih{l c:Nat}{b:List aD}(h:ZY w l 119 3 (Y (Q (T g 0 Z)) (B b) c) (B b) (mG b)):RowReply w g 0 (B b) (yL b):=by
 obtain⟨_,n,cs,hc⟩:=af h g rfl;refine⟨n,λi hi=>?_⟩;have o:b[i]?=Q (yL b i):=by simp[yL,gq hi]
 have f:∀j u,j<3->([Value.bool (yL b i).has,J I (yL b i).M,U (yL b i).H]:List ZB)[j]?=Q u->ZW w (T g (i*3+j) Z)=Q u:=λj u m p=>by have h1:=h.cells (g:=g) rfl (i*3+j) u (by rw[mG,cT (λr:aD=>[ZF r.has,J I r.M,U r.H]) 3 (λ_=>rfl) b i j m _ o];exact p);rw[addr_add,IT] at h1;exact h1
 refine⟨?_,?_,?_⟩;{rw[IT];exact f 0 _ (by omega) rfl};{rw[IT];exact f 1 _ (by omega) rfl};{rw[IT];exact f 2 _ (by omega) rfl}
def oH (w:E)(e:ZK)(size:Nat):(ZV w (N #[] e)).ownsRow (A (z w)) e size (Y (Q (T (A (z w)) 0 Z)) 0 0) 0 []:=
 ⟨by simp,.inr ⟨A (z w),0,#[],rfl,p7 _,gM _ _,p7 _,DW _,by simp,by simp⟩⟩
def CH (g:SpcOk S)(i:tg<S.n1){b:List aD}(j:∀y∈b,cI y=ZH)(hl:B b<=200):oB (S.f1 tg).q (S.f1 tg).h (yL b) (B b)=bK S tg b:=by
 unfold oB;have h:bU (yL b) (B b)=ZH:=by
  have:∀k,bU (yL b) k=ZH:=λk=>by
   induction k with
   |zero=>rfl
   |succ k f=>rw[bU,f,GK j k];rfl
  exact this _
 rw[eI (by rw[g.q tg i];simp),eI (by omega),eI (by rw[h];simp)];rfl
def FZ (b:SpcOk S)(f:tg<S.n1):∀i,i<(S.f1 tg).h->((S.f1 tg).q i).s.size<=maxLen:=λi hi=>by
 have h1:=j7 (bJ (b.q tg f)).1 hi;simp only[cL,nD] at h1;obtain⟨i1,i2,i3,i4,i5⟩:=h1;have hmt2:bW ((S.f1 tg).q i).op<=2000:=by unfold bW;split<;>omega
 unfold maxLen;omega
section
variable {w0:E}{S:xl}{a0 a1:O_}{c0 c1 hb:Nat}{md or st:ZB}{y_:List F_}{q_:List k_}{L:List SM}
def pL (C:pJ w0 S a0 a1)(w:E)(t:F_)(g:Below (A (z w0)) w0 w)(n:hb<A (z w))(m:ZW w (T hb 0 Z)=Q (Y a0 S.n0 c0))(l:ZW w (T hb 1 Z)=Q (Y a1 S.n1 c1)):Qw Pg 179 #[.pointer (Q (T hb 0 Z)),U t] w λe w'=>e=ZI (ZF (fL S t))/\Below (A (z w)) w w':=by
 have x:=ae C;have q:=ae g;have hsm:=C.ok.bb;obtain⟨R,hR⟩:∃R,R=fL S t:=⟨_,rfl⟩
 rw[<-hR];have o:Hid (R=((atI (nm0 S.f0) S.n0 t).isSome || (atI (nm1 S.f1) S.n1 t).isSome)):=by show _=_;rw[hR];unfold fL;rw[ja,ja]
 clear C g hR;go_enter func179,ntmps179;go_wp2_with fail;refine(iP a0 S.n0 c0 a1 S.n1 c1 S.f0 t w (by omega) (x.src.aa q ly)).P ?_;rintro e r⟨rfl,b⟩;have y:=(b.O (p:=(T hb 0 Z)) n).k m;have Z8:=(b.O (p:=(T hb 1 Z)) n).k l;have hl1:hb<A (z r):=lj n b.size;have h:=ae b;clear b m l;cases h0:atI (nm0 S.f0) S.n0 t with
 |some i =>
  have j:=ae h0;clear h0;have u:(0:Int)<=(i:Int):=by omega
  simp only[eh];go_wp2;go_ret;exact⟨by rw[o.i,j.i];rfl,h⟩
 |none =>
  have j:=ae h0;clear h0;simp only[eh];go_wp2_with fail;refine(iQ a0 S.n0 c0 a1 S.n1 c1 S.f1 t r (by omega) (x.w.aa (q.k (h.P q.size)) ly)).P ?_;rintro e w2⟨rfl,b⟩;have s:=ae (h.k (b.P h.size));clear b y Z8;cases h1:atI (nm1 S.f1) S.n1 t with
  |some i =>
   have f:=ae h1;clear h1;have u:(0:Int)<=(i:Int):=by omega
   simp only[eh];go_wp2;go_ret;exact⟨by rw[o.i,j.i,f.i];simp,s⟩
  |none =>have f:=ae h1;clear h1;simp only[eh];go_wp2;go_ret;exact⟨by rw[o.i,j.i,f.i];rfl,s⟩
end
