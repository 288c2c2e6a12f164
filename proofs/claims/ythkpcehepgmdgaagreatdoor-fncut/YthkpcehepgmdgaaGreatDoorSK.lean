import Derived.Test.YthkpcehepgmdgaaGreatDoorTQ
import Derived.Test.YthkpcehepgmdgaaGreatDoorTX
set_option maxRecDepth 100000
set_option maxHeartbeats 8000000
set_option linter.unusedSimpArgs false
open Go renaming Addr.mk->Q,Value.slice->Z,Value.string->U,Value.int->J,Value.bool->ZC,Value.agg->ZH,Obj.cells->N,IntKind.i64->I,World->G,Ending.returned->ZG,World.alloc->ZT,World.cell?->ZU,Proofs.Tryz.prog->Pg
open Option renaming none->Y,some->T
open Bool renaming false->ZB,true->ZF
namespace Go.Proofs.YthkpcehepgmdgaaGreatDoor.Vp
open Tryz RowKit Go.Sort
theorem ng:∀a b:List UInt8,decide (Lib.compareBytes a b<0)=Op.bytesLess a b
 |[],[]=>by simp[Lib.compareBytes,Op.bytesLess]
 |[],_::_=>by simp[Lib.compareBytes,Op.bytesLess]
 |_::_,[]=>by simp[Lib.compareBytes,Op.bytesLess]
 |a::x,b::y=>by
  have g:=ng x y;rw[Lib.compareBytes,Op.bytesLess,<-g];by_cases h1:a<b
  ·simp[h1]
  ·rw[eT h1]
   by_cases h2:b<a
   ·have f:¬ a=b:=λe=>by subst e;exact h1 h2
    simp[h1,h2,f]
   ·have f:a=b:=UInt8.le_antisymm (RU.1 h2) (RU.1 h1)
    subst f;simp[h1]
theorem lc:∀a b:List UInt8,decide (Lib.compareBytes a b=0)=(a == b)
 |[],[]=>by simp[Lib.compareBytes]
 |[],_::_=>by simp[Lib.compareBytes]
 |_::_,[]=>by simp[Lib.compareBytes]
 |a::x,b::y=>by
  have g:=lc x y;rw[Lib.compareBytes];by_cases h1:a<b
  ·have f:¬ a=b:=λe=>by subst e;exact(UInt8.lt_irrefl _ h1)
   simp[h1,f]
  ·rw[eT h1]
   by_cases h2:b<a
   ·have f:¬ a=b:=λe=>by subst e;exact h1 h2
    simp[h2,f]
   ·have f:a=b:=UInt8.le_antisymm (RU.1 h2) (RU.1 h1)
    subst f;rw[eT h2,g];simp
theorem tC (a b:ByteArray):∃z:Int,Lib.compareBytes a.data.toList b.data.toList=z/\decide (z<0)=aX a b/\decide (z=0)=(a.toList == b.toList):=by
 refine⟨_,rfl,?_,?_⟩;{rw[ng];simp only[aX,LV]};{rw[lc];simp only[LV]}
theorem jE (nm tx:ByteArray)(t:ByteArray)(w:G):Calls Pg 131 #[ZH #[U nm,U tx],U t] w λe f=>∃z:Int,e=ZG (J I z)/\decide (z<0)=aX nm t/\decide (z=0)=(nm.toList == t.toList)/\Below w.heap.size w f:=by have b:=ae ((q9 w).alloc ly (N #[U nm,U tx] 87));obtain⟨z,hz,h1,h2⟩:=tC nm t;have h:=ae hz;have i:=ae h1;have g:=ae h2;clear hz h1 h2;go_enter func131,ntmps131;go_wp2_with fail;refine(Tryz.strings_Compare nm t _).mono ?_;rintro e w1 ⟨rfl,rfl⟩;rw[h.out];go_wp2;go_ret;exact⟨z,rfl,i,g,b⟩
theorem jF (nm:ByteArray)(a:Option Addr)(k d:Nat)(t:ByteArray)(w:G):Calls Pg 134 #[ZH #[U nm,Z a k d],U t] w λe g=>∃z:Int,e=ZG (J I z)/\decide (z<0)=aX nm t/\decide (z=0)=(nm.toList == t.toList)/\Below w.heap.size w g:=by have b:=ae ((q9 w).alloc ly (N #[U nm,Z a k d] 94));obtain⟨z,hz,h1,h2⟩:=tC nm t;have h:=ae hz;have i:=ae h1;have f:=ae h2;clear hz h1 h2;go_enter func134,ntmps134;go_wp2_with fail;refine(Tryz.strings_Compare nm t _).mono ?_;rintro e w1 ⟨rfl,rfl⟩;rw[h.out];go_wp2;go_ret;exact⟨z,rfl,i,f,b⟩
def FX (s:Bool)(w:G)(b off n:Nat)(g:Nat->ByteArray):Prop:=b<w.heap.size/\∀i,i<n->ZU w (Q b (off+i*2) Y)=T (U (g i))/\∃u,ZU w (Q b (off+i*2+1) Y)=T u/\if s=ZF then ∃x,u=U x else ∃a k d,u=Z a k d
theorem Bo (s:Bool)(b off n cap:Nat)(g:Nat->ByteArray)(t:ByteArray)(w:G)(hn:(n:Int)<=1048576)(S:FX s w b off n g)(X:aJ g n=ZF):Calls Pg (if s=ZF then 130 else 133) #[Z (T (Q b off Y)) n cap,U t,.func (.func (if s=ZF then 131 else 134)) #[] #[]] w λe w'=>∃i:Nat,e=ZG (.tuple #[J I (i:Int),ZC (aG g n t)])/\i<=n/\(∀m,m<i->aX (g m) t=ZF)/\(∀m,i<=m->m<n->aX (g m) t=ZB)/\Below w.heap.size w w':=by
 have o:=ae S;have P:=ae X;clear S X;obtain⟨ZQ,ZP⟩:∃ZQ,ZQ=aG g n t:=⟨_,rfl⟩
 rw[<-ZP];have ZL:=ae ZP;clear ZP;cases s
 all_goals simp only[SV,Bool.false_eq_true,QE]
 focus go_enter func133,ntmps133
 rotate_left;focus go_enter func130,ntmps130
 all_goals
  go_wp2;go_loopw [9,10] (λi j wr=>∃p q:Nat,p<=q/\q<=n/\i=J I p/\j=J I q/\Hid (∀m,m<p->aX (g m) t=ZF)/\Hid (∀m,q<=m->m<n->aX (g m) t=ZB)/\Hid (Below w.heap.size w wr)) (λi j _=>(intOf j).toNat - (intOf i).toNat);case atStart=>exact⟨0,n,by omega,by omega,rfl,rfl,λm O=>absurd O (IT _),λm h1 h2=>by omega,cM _ _⟩
  case round =>
   obtain⟨p,q,hpq,H,rfl,rfl,D,C,f⟩:=hrel;by_cases hlt:p<q
   ·obtain⟨m,O⟩:∃m:Nat,m=(p+q) / 2:=⟨_,rfl⟩
    have V:p<=m:=by omega
    have hm2:m<q:=by omega
    obtain⟨E,u,ZS,K⟩:=o.2 m (by omega);replace E:=(f.cell (p:=(Q b _ Y)) o.1).trans E;replace ZS:=(f.cell (p:=(Q b _ Y)) o.1).trans ZS;have ZJ:=lj o.1 f.size;first|obtain⟨x,rfl⟩:=K|obtain⟨x,y,ZN,rfl⟩:=K
    have hsh:((p:Int)+q) / 2=m:=by omega
    clear O;go_wp2_with fail;first|(go_at_call 131;refine(jE (g m) x t _).mono ?_)|(go_at_call 134;refine(jF (g m) x y ZN t _).mono ?_)
    rintro e ZK ⟨z,rfl,L,_,h⟩;have R:=ae L;have l:=ae (f.trans (h.mono f.size));clear L h;by_cases hz:z<0
    ·have B:Hid (aX (g m) t=ZF):=by show _=_;rw[<-R.out];exact MR hz
     go_wp2;refine⟨⟨m+1,q,by omega,H,by go_num,rfl,λx ZM=>?_,C,l⟩,by simp[intOf];omega⟩;by_cases e:x=m
     ·subst e;exact B
     ·exact fM (jm P (show x<m by omega) (by omega)) B
    ·have B:Hid (aX (g m) t=ZB):=by show _=_;rw[<-R.out];exact N9 hz
     go_wp2;refine⟨⟨p,m,V,by omega,rfl,rfl,D,λx h1 h2=>?_,l⟩,by simp[intOf];omega⟩;by_cases e:x=m
     ·subst e;exact B
     ·cases ZM:aX (g x) t with
      |false=>rfl
      |true =>have:=fM (jm P (show m<x by omega) h2) ZM;rw[B.out] at this;cases this
   ·have e:p=q:=by omega
    subst e;have W:=ae (ZL.trans (mZ P H D C));by_cases A:p<n
    ·have hlt3:(p:Int)<n:=by omega
     obtain⟨E,u,ZS,K⟩:=o.2 p A;replace E:=(f.cell (p:=(Q b _ Y)) o.1).trans E;replace ZS:=(f.cell (p:=(Q b _ Y)) o.1).trans ZS;have ZJ:=lj o.1 f.size;first|obtain⟨x,rfl⟩:=K|obtain⟨x,y,ZN,rfl⟩:=K
     go_wp2_with fail;first|(go_at_call 131;refine(jE (g p) x t _).mono ?_)|(go_at_call 134;refine(jF (g p) x y ZN t _).mono ?_)
     rintro e ZK ⟨z,rfl,_,M,h⟩;have l:=ae (f.trans (h.mono f.size));have ZO:Hid (ZQ=decide (z=0)):=by show ZQ=_;rw[W.out,M];simp[A]
     clear M h;by_cases hz:z=0
     ·have r:ZQ=ZF:=by rw[ZO.out];exact MR hz
      subst r;subst hz;go_wp2;exact bp (v:=.tuple #[J I p,ZC ZF]) (by simp[results,TX,TY,go_sem]) rfl ⟨p,rfl,H,D,C,l⟩
     ·have r:ZQ=ZB:=by rw[ZO.out];exact N9 hz
      subst r;have hz':(z == 0)=ZB:=by simpa using hz
      go_wp2;exact bp (v:=.tuple #[J I p,ZC ZB]) (by simp[results,TX,TY,go_sem]) rfl ⟨p,rfl,H,D,C,l⟩
    ·have r:ZQ=ZB:=by rw[W.out];simp[A]
     subst r;have hge:¬ (p:Int)<n:=by omega
     go_wp2;exact bp (v:=.tuple #[J I p,ZC ZB]) (by simp[results,TX,TY,go_sem]) rfl ⟨p,rfl,H,D,C,f⟩
theorem Bp (s:Bool)(a:Option Addr)(cap:Nat)(g:Nat->ByteArray)(t:ByteArray)(w:G):Calls Pg (if s=ZF then 130 else 133) #[Z a 0 cap,U t,.func (.func (if s=ZF then 131 else 134)) #[] #[]] w λe b=>e=ZG (.tuple #[J I 0,ZC (aG g 0 t)])/\b=w:=by
 rw[iz];cases s
 all_goals simp only[SV,Bool.false_eq_true,QE]
 focus go_enter func133,ntmps133
 rotate_left;focus go_enter func130,ntmps130
 all_goals
  go_wp2;go_loop [9,10] (λi j=>i=J I 0/\j=J I 0) (λ_ _=>0);case atStart=>exact⟨rfl,rfl⟩
  case round =>obtain⟨rfl,rfl⟩:=hrel;go_wp2;exact bp (v:=.tuple #[J I 0,ZC ZB]) (by simp[results,TX,TY,go_sem]) rfl ⟨rfl,rfl⟩
theorem tD (s:Bool)(a:Option Addr)(n cap:Nat)(g:Nat->ByteArray)(t:ByteArray)(w:G)(hn:(n:Int)<=1048576)(h:n=0∨∃b off,a=T (Q b off Y)/\FX s w b off n g)(p:aJ g n=ZF):Calls Pg (if s=ZF then 130 else 133) #[Z a n cap,U t,.func (.func (if s=ZF then 131 else 134)) #[] #[]] w λe j=>∃i:Nat,e=ZG (.tuple #[J I (i:Int),ZC (aG g n t)])/\i<=n/\(∀m,m<i->aX (g m) t=ZF)/\(∀m,i<=m->m<n->aX (g m) t=ZB)/\Below w.heap.size w j:=by
 rcases h with rfl|⟨b,off,rfl,h⟩
 {exact(Bp s a cap _ t w).mono λe j ⟨l,o⟩=>⟨0,l,by omega,λm f=>absurd f (IT _),λm _ f=>absurd f (IT _),by rw[o];exact cM _ _⟩};{exact Bo s b off n cap g t w hn h p}
theorem kj (a0:Option Addr)(n0 c0:Nat)(a1:Option Addr)(n1 c1:Nat)(f:Nat->Source)(t:ByteArray)(w:G)(hn:(n0:Int)<=1048576)(n:SlSource w a0 n0 f)(p:aJ (nm0 f) n0=ZF):Calls Pg 105 #[ZH #[Z a0 n0 c0,Z a1 n1 c1],U t] w λe z=>∃i:Nat,e=ZG (.tuple #[J I (i:Int),ZC (aG (nm0 f) n0 t)])/\i<=n0/\(∀m,m<i->aX (nm0 f m) t=ZF)/\(∀m,i<=m->m<n0->aX (nm0 f m) t=ZB)/\Below w.heap.size w z:=by
 have l:=ae ((q9 w).alloc ly (N #[Z a0 n0 c0,Z a1 n1 c1] 33));have r:=ae (n.aa l ly);have y:=ae p;clear n p;obtain⟨ZQ,g⟩:∃ZQ,ZQ=aG (nm0 f) n0 t:=⟨_,rfl⟩
 rw[<-g];have u:=ae g;clear g;go_enter func105,ntmps105;go_wp2_with fail;refine(tD ZF a0 n0 c0 (nm0 f) t _ hn (r.out.imp id λ⟨b,o,e,h⟩=>⟨b,o,e,h.1,λi hi=>⟨(h.2 i hi).1,_,(h.2 i hi).2,_,rfl⟩⟩) y).mono ?_;rintro e w1 ⟨i,rfl,hi,h1,h2,j⟩;rw[<-u.out];have x:=ae h1;have s:=ae h2;have q:=ae (l.trans (j.mono (by simp)));clear h1 h2 j;go_wp2;exact bp (v:=.tuple #[J I i,ZC ZQ]) (by simp[results,results105,go_sem]) rfl ⟨i,rfl,hi,x,s,q⟩
theorem kl (a0:Option Addr)(n0 c0:Nat)(a1:Option Addr)(n1 c1:Nat)(f:Nat->Target)(t:ByteArray)(w:G)(hn:(n1:Int)<=1048576)(p:SlTarget w a1 n1 f)(l:aJ (nm1 f) n1=ZF):Calls Pg 106 #[ZH #[Z a0 n0 c0,Z a1 n1 c1],U t] w λe y=>∃i:Nat,e=ZG (.tuple #[J I (i:Int),ZC (aG (nm1 f) n1 t)])/\i<=n1/\(∀m,m<i->aX (nm1 f m) t=ZF)/\(∀m,i<=m->m<n1->aX (nm1 f m) t=ZB)/\Below w.heap.size w y:=by
 have j:=ae ((q9 w).alloc ly (N #[Z a0 n0 c0,Z a1 n1 c1] 33));have r:=ae (p.aa j ly);have x:=ae l;clear p l;obtain⟨ZQ,g⟩:∃ZQ,ZQ=aG (nm1 f) n1 t:=⟨_,rfl⟩
 rw[<-g];have u:=ae g;clear g;go_enter func106,ntmps106;go_wp2_with fail
 refine(tD ZB a1 n1 c1 (nm1 f) t _ hn (r.out.imp id λ⟨b,o,e,h⟩=>⟨b,o,e,h.1,λi hi=>by
  obtain⟨s,ka,kc,h1,_⟩:=h.2 i hi
  exact⟨s,_,h1,_,_,_,rfl⟩⟩) x).mono ?_
 rintro e w1 ⟨i,rfl,hi,h1,h2,n⟩;rw[<-u.out];have q:=ae h1;have A:=ae h2;have z:=ae (j.trans (n.mono (by simp)));clear h1 h2 n;go_wp2;exact bp (v:=.tuple #[J I i,ZC ZQ]) (by simp[results,results106,go_sem]) rfl ⟨i,rfl,hi,q,A,z⟩
theorem wv (a0:Option Addr)(n0 c0:Nat)(f0:Nat->Source)(a1:Option Addr)(n1 c1:Nat)(f1:Nat->Target)(t:ByteArray)(w:G)(hn0:(n0:Int)<=1048576)(hn1:(n1:Int)<=1048576)(n:SlSource w a0 n0 f0)(m:SlTarget w a1 n1 f1)(g:aJ (nm0 f0) n0=ZF)(h:aJ (nm1 f1) n1=ZF):Calls Pg 108 #[ZH #[Z a0 n0 c0,Z a1 n1 c1],U t] w λe D=>e=ZG (ZC (aG (nm0 f0) n0 t || aG (nm1 f1) n1 t))/\Below w.heap.size w D:=by
 have f:=ae ((q9 w).alloc ly (N #[Z a0 n0 c0,Z a1 n1 c1] 33));have r:ZU (ZT w (N #[Z a0 n0 c0,Z a1 n1 c1] 33)) (Q w.heap.size 0 Y)=T (Z a0 n0 c0):=by simp
 have s:ZU (ZT w (N #[Z a0 n0 c0,Z a1 n1 c1] 33)) (Q w.heap.size 1 Y)=T (Z a1 n1 c1):=by simp
 have A:=ae (n.aa f ly);have z:=ae (m.aa f ly);have B:=ae g;have H:=ae h;clear n m g h;obtain⟨ZQ,o⟩:∃ZQ,ZQ=aG (nm0 f0) n0 t:=⟨_,rfl⟩
 obtain⟨ZP,q⟩:∃ZP,ZP=aG (nm1 f1) n1 t:=⟨_,rfl⟩
 rw[<-o,<-q];have x:=ae o;have y:=ae q;clear o q;go_enter func108,ntmps108;go_wp2_with fail;refine(kj a0 n0 c0 a1 n1 c1 f0 t _ hn0 A B).mono ?_;rintro e w1 ⟨i,rfl,_,_,_,b⟩;have E:=(b.cell (p:=(Q w.heap.size 0 Y)) (by simp)).trans r;have ZS:=(b.cell (p:=(Q w.heap.size 1 Y)) (by simp)).trans s;have C:=ae (z.aa b ly);have u:=ae (f.trans (b.mono (by simp)));clear b r s f;rw[<-x.out];go_wp2_with fail;refine(kl a0 n0 c0 a1 n1 c1 f1 t _ hn1 C H).mono ?_;rintro e w2 ⟨j,rfl,_,_,_,l⟩;have K:=ae (u.trans (l.mono u.size));clear l E ZS;rw[<-y.out];clear x y;cases ZQ
 all_goals
  go_wp2;go_ret;exact⟨rfl,K⟩
theorem vq (x:Link)(hb:Nat)(g:Option Addr)(n0 o:Nat)(f0:Nat->Source)(h:Option Addr)(n1 z:Nat)(f1:Nat->Target)(w:G)(m:hb<w.heap.size)(K:ZU w (Q hb 1 Y)=T (Z g n0 o))(L:ZU w (Q hb 2 Y)=T (Z h n1 z))(hn0:(n0:Int)<=1048576)(hn1:(n1:Int)<=1048576)(l:SlSource w g n0 f0)(s:SlTarget w h n1 f1)(y:aJ (nm0 f0) n0=ZF)(u:aJ (nm1 f1) n1=ZF):Calls Pg 110 #[ZH #[U x.e,ZC x.ask,ZC x.has,J I x.L],.pointer (T (Q hb 0 Y))] w λe ZN=>e=ZG (ZC (dT n0 f0 n1 f1 x))/\Below w.heap.size w ZN:=by
 have b:=ae ((q9 w).alloc ly (N #[U x.e,ZC x.ask,ZC x.has,J I x.L] 68));obtain⟨r,A⟩:∃r,r=dT n0 f0 n1 f1 x:=⟨_,rfl⟩
 rw[<-A];have D:=ae (show r=(!x.ask && !(x.has == jn n0 f0 n1 f1 x.e)) from A);have i:=ae (l.aa b.out ly);have j:=ae (s.aa b.out ly);have O:=ae y;have M:=ae u;clear A l s y u;cases hq:x.ask with
 |true =>
  obtain rfl:r=ZB:=by rw[D.out,hq];rfl
  rw[hq] at b;go_enter func110,ntmps110;go_wp2_with fail;go_quiet (fail);go_wp2;go_ret;exact⟨rfl,BG b.out _⟩
 |false =>
  have ZS:Hid (r=!(x.has == jn n0 f0 n1 f1 x.e)):=by show _=_;rw[D.out,hq];rfl
  rw[hq] at b i j;obtain⟨c,n⟩:∃c,c=x.has:=⟨_,rfl⟩
  rw[<-n] at b i j ZS ⊢;clear n D;have E:=ae (λW (f:Below (ZT w (N #[U x.e,ZC ZB,ZC c,J I x.L] 68)).heap.size (ZT w (N #[U x.e,ZC ZB,ZC c,J I x.L] 68)) W)=>wv g n0 o f0 h n1 z f1 x.e W hn0 hn1 (i.out.aa f ly) (j.out.aa f ly) O.out M.out);have m0:ZU (ZT w (N #[U x.e,ZC ZB,ZC c,J I x.L] 68)) (Q w.heap.size 0 Y)=T (U x.e):=by simp
  have P:ZU (ZT w (N #[U x.e,ZC ZB,ZC c,J I x.L] 68)) (Q w.heap.size 1 Y)=T (ZC ZB):=by simp
  have B:ZU (ZT w (N #[U x.e,ZC ZB,ZC c,J I x.L] 68)) (Q w.heap.size 2 Y)=T (ZC c):=by simp
  have H:=(b.out.cell (p:=(Q hb 1 Y)) m).trans K;have ZP:=(b.out.cell (p:=(Q hb 2 Y)) m).trans L;have hz:w.heap.size<(ZT w (N #[U x.e,ZC ZB,ZC c,J I x.L] 68)).heap.size:=by simp
  have ZO:hb<(ZT w (N #[U x.e,ZC ZB,ZC c,J I x.L] 68)).heap.size:=by omega
  have t:Hid (r=!(c == (aG (nm0 f0) n0 x.e || aG (nm1 f1) n1 x.e))):=ZS.out;generalize (aG (nm0 f0) n0 x.e || aG (nm1 f1) n1 x.e)=q at E t;clear i j ZS;go_enter func110,ntmps110;go_wp2_with fail;generalize World.alloc w _=W at b E m0 P B H ZP hz ZO ⊢;have K0:=ae (And.intro B (And.intro H ZP))
  go_region_with (first
   |(go_at_call 108;refine(E.out _ ?_).mono ?_;(first|exact cM _ _|exact br.drew);rintro e ZQ ⟨rfl,f⟩;have C:Hid (Below W.heap.size W ZQ):=⟨f.os,f.tape,f.output,f.size,f.block⟩;have y2:=(C.out.cell (p:=(Q w.heap.size 2 Y)) hz).trans B;have hz1:w.heap.size<ZQ.heap.size:=lj hz C.out.size;clear f))
  all_goals
   go_simp;go_wp2;go_ret;exact⟨by simp[t.out],b.out.trans (C.out.mono b.out.size)⟩
theorem sf (b off m c:Nat)(h:Nat->Link)(hb:Nat)(l:Option Addr)(n0 s:Nat)(f0:Nat->Source)(o:Option Addr)(n1 C:Nat)(f1:Nat->Target)(w:G)(hm:(m:Int)<=1048576)(n:RowLink w b off m h)(g:hb<w.heap.size)(t:ZU w (Q hb 1 Y)=T (Z l n0 s))(A:ZU w (Q hb 2 Y)=T (Z o n1 C))(hn0:(n0:Int)<=1048576)(hn1:(n1:Int)<=1048576)(q:SlSource w l n0 f0)(u:SlTarget w o n1 f1)(B:aJ (nm0 f0) n0=ZF)(y:aJ (nm1 f1) n1=ZF):Calls Pg 135 #[Z (T (Q b off Y)) m c,.func (.func 110) #[] #[.pointer (T (Q hb 0 Y))]] w λe ZO=>∃r:Int,e=ZG (J I r)/\decide (0<=r)=aI (λk=>dT n0 f0 n1 f1 (h k)) m/\Below w.heap.size w ZO:=by
 have K:=ae n;have M:=ae (λW (f:Below w.heap.size w W) x=>vq x hb l n0 s f0 o n1 C f1 W (lj g f.size) ((f.cell (p:=(Q hb 1 Y)) g).trans t) ((f.cell (p:=(Q hb 2 Y)) g).trans A) hn0 hn1 (q.aa f ly) (u.aa f ly) B y);clear n q u B y t A g;go_enter func135,ntmps135;go_wp2;go_loopw [8] (λi wr=>∃k:Nat,k<=m/\i=J I k/\Hid (aI (λk=>dT n0 f0 n1 f1 (h k)) k=ZB)/\Hid (Below w.heap.size w wr)) (λi _=>m - (intOf i).toNat);case atStart=>exact⟨0,by omega,rfl,rfl,cM _ _⟩
 case round =>
  obtain⟨k,hk,rfl,E,j⟩:=hrel;by_cases z:k<m
  ·obtain⟨ZP,H,ZQ,L⟩:=(K.out.aa j.out ly).2 k z;go_wp2_with fail;go_at_call 110;refine(M.out _ j.out (h k)).mono ?_;rintro e w1 ⟨rfl,f⟩;have ZS:=ae (j.out.trans (f.mono j.out.size));clear f ZP H ZQ L;cases hq:dT n0 f0 n1 f1 (h k) with
   |true =>have D:=ae hq;clear hq;go_wp2;go_ret;exact⟨k,rfl,by rw[cY (p:=λk=>dT n0 f0 n1 f1 (h k)) z D.out];simp,ZS.out⟩
   |false =>have D:=ae hq;clear hq;go_wp2;exact⟨⟨k+1,by omega,by go_num,by show aI _ (k+1)=ZB;rw[aI,E.out,D.out];rfl,ZS.out⟩,by simp[intOf];omega⟩
  ·obtain rfl:k=m:=by omega
   go_wp2;go_ret;exact⟨-1,rfl,by rw[E.out];rfl,j.out⟩
theorem sj (a:Option Addr)(c hb:Nat)(w:G):Calls Pg 135 #[Z a 0 c,.func (.func 110) #[] #[.pointer (T (Q hb 0 Y))]] w λe b=>e=ZG (J I (-1))/\b=w:=by
 go_enter func135,ntmps135;go_wp2;go_loop [8] (λi=>i=J I 0) (λ_=>0);case atStart=>rfl
 case round =>subst hrel;go_wp2;go_ret;exact⟨rfl,rfl⟩
theorem ss (a:Option Addr)(m c:Nat)(h:Nat->Link)(hb:Nat)(g:Option Addr)(n0 j:Nat)(f0:Nat->Source)(i:Option Addr)(n1 l:Nat)(f1:Nat->Target)(w:G)(A:(m:Int)<=1048576)(f:SlLink w a m h)(u:hb<w.heap.size)(n:ZU w (Q hb 1 Y)=T (Z g n0 j))(x:ZU w (Q hb 2 Y)=T (Z i n1 l))(hn0:(n0:Int)<=1048576)(hn1:(n1:Int)<=1048576)(t:SlSource w g n0 f0)(o:SlTarget w i n1 f1)(y:aJ (nm0 f0) n0=ZF)(s:aJ (nm1 f1) n1=ZF):Calls Pg 135 #[Z a m c,.func (.func 110) #[] #[.pointer (T (Q hb 0 Y))]] w λe z=>∃r:Int,e=ZG (J I r)/\decide (0<=r)=aI (λk=>dT n0 f0 n1 f1 (h k)) m/\Below w.heap.size w z:=by
 rcases f with rfl|⟨b,off,rfl,f⟩
 {exact(sj a c hb w).mono λe z ⟨p,q⟩=>⟨-1,p,rfl,by rw[q];exact cM _ _⟩};{exact sf b off m c h hb g n0 j f0 i n1 l f1 w A f u n x hn0 hn1 t o y s}
theorem oz (a:Option Addr)(m c:Nat)(h:Nat->Link)(hb:Nat)(b:Option Addr)(n0 p:Nat)(f0:Nat->Source)(g:Option Addr)(n1 o:Nat)(f1:Nat->Target)(w:G)(B:(m:Int)<=1048576)(f:SlLink w a m h)(x:hb<w.heap.size)(q:ZU w (Q hb 1 Y)=T (Z b n0 p))(l:ZU w (Q hb 2 Y)=T (Z g n1 o))(hn0:(n0:Int)<=1048576)(hn1:(n1:Int)<=1048576)(i:SlSource w b n0 f0)(j:SlTarget w g n1 f1)(n:aJ (nm0 f0) n0=ZF)(s:aJ (nm1 f1) n1=ZF):Calls Pg 109 #[Z a m c,.func (.func 110) #[] #[.pointer (T (Q hb 0 Y))]] w λe D=>e=ZG (ZC (aI (λk=>dT n0 f0 n1 f1 (h k)) m))/\Below w.heap.size w D:=by
 have y:=ae (ss a m c h hb b n0 p f0 g n1 o f1 w B f x q l hn0 hn1 i j n s);obtain⟨A,t⟩:∃A,A=aI (λk=>dT n0 f0 n1 f1 (h k)) m:=⟨_,rfl⟩
 rw[<-t];rw[<-t] at y;clear t i j n s f q l;go_enter func109,ntmps109;go_wp2_with fail;refine y.out.mono ?_;rintro e w1 ⟨r,rfl,z,u⟩;have C:=ae z;have E:=ae u;clear z u;go_wp2;go_ret;exact⟨be C.out,E.out⟩
theorem xO (z j n cap:Nat)(f:Option Addr)(n0 m:Nat)(f0:Nat->Source)(g:Option Addr)(n1 l:Nat)(f1:Nat->Target)(d:af)(a0:Option Addr)(h:Nat)(a1:Option Addr)(b:Nat)(w:G)(hn0:(n0:Int)<=1048576)(hn1:(n1:Int)<=1048576)(o:SlSource w f n0 f0)(p:SlTarget w g n1 f1)(q:aJ (nm0 f0) n0=ZF)(s:aJ (nm1 f1) n1=ZF)(hL:SlLink w a1 d.f d.m)(hfl:d.f<=1048576):Calls Pg 72 #[ZH #[Z (T (Q z j Y)) n cap,Z f n0 m,Z g n1 l],ZH #[U d.e,J I d.H,J I d.E,U d.B,Z a0 d.l h,Z a1 d.f b]] w λe B=>e=ZG (ZC (hasB n0 f0 n1 f1 d))/\Below w.heap.size w B:=by
 have i:=ae (((q9 w).alloc ly (N #[Z (T (Q z j Y)) n cap,Z f n0 m,Z g n1 l] 129)).alloc (by simp) (N #[U d.e,J I d.H,J I d.E,U d.B,Z a0 d.l h,Z a1 d.f b] 44));have y:=ae (oz a1 d.f b d.m w.heap.size f n0 m f0 g n1 l f1 _ (by omega) (hL.aa i.out ly) (by simp;omega) (by simp[go_sem]) (by simp[go_sem]) hn0 hn1 (o.aa i.out ly) (p.aa i.out ly) q s);obtain⟨r,t⟩:∃r,r=hasB n0 f0 n1 f1 d:=⟨_,rfl⟩
 rw[<-t];have u:=ae (show aI (λk=>dT n0 f0 n1 f1 (d.m k)) d.f=r from t.symm);rw[u.out] at y;clear t o p q s hL u;go_enter func72,ntmps72;go_wp2_with fail;refine y.out.mono ?_;rintro e w1 ⟨rfl,x⟩;have A:=ae (i.out.trans (x.mono i.out.size));clear x;go_wp2;go_ret;exact⟨rfl,A.out⟩
