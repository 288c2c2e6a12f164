import Derived.Test.YtkdimgejdocbbaaGreatDoorXB
import Derived.Test.YtkdimgejdocbbaaGreatDoorZA
import Derived.Test.YtkdimgejdocbbaaGreatDoorZY
import Derived.WalkSmall
set_option maxRecDepth 100000
set_option maxHeartbeats 2000000
open Go.Value renaming slice->Z,string->U,int->Q,agg->QE
open Go.Obj renaming cells->T
open Option renaming some->N
open Go.IntKind renaming i64->I
open Go renaming World->E
open Bool renaming false->D,true->QC
open Go.Ending renaming returned->QD
namespace Go.Proofs.YtkdimgejdocbbaaGreatDoor.Vp
open RowKit Ca
theorem xH (a b:Option Addr)(n c d:Nat)(f:Nat->ByteArray)(w:E)(hn:n<=1048576)(p:SlStr w a n f)(hb:SlStr w b n f):Calls Tryz.prog 31 #[Z a n c,Z b n d] w fun e r=>e=QD (.bool QC)/\Below w.heap.size w r:=by
 have t:=ae p;have s:=ae hb;clear p hb;go_enter Tryz.func31,Tryz.ntmps31;go_wp2_with fail;go_loopw [5] (fun i wr=>∃ k:Nat,k<=n/\i=Q I k/\Hid (Below w.heap.size w wr)) (fun i _=>n - (intOf i).toNat);case atStart=>exact⟨0,by omega,rfl,eI _ _⟩
 case round =>
  obtain⟨k,hk,rfl,g⟩:=hrel;by_cases j:k<n
  ·rcases t.below g.out lr with h | ⟨sb,so,rfl,m⟩
   ·omega
   rcases s.below g.out lr with h | ⟨tb,sp,rfl,l⟩
   ·omega
   have q:=m.2 k j;have u:=l.2 k j;have hsb:=m.1;have htb:=l.1;clear m l;have hlt2:(k:Int)<n:=by omega
   go_wp2_with fail;go_quiet (fail);have o:=ae (xT g nq);clear q u;generalize wr.drewN nq=W at o ⊢;go_wp2;exact⟨⟨k+1,by omega,by go_num,o⟩,by simp[intOf];omega⟩
  ·obtain rfl:k=n:=by omega
   go_wp2;go_ret;exact⟨rfl,g⟩
theorem vC {w:E}{b c:Nat}{a:Option Addr}{L:List ByteArray}(h:w.ownsRow b 9 1 (Z a L.length c) L.length (bq L)):SlStr w a L.length (fun i=>L.getD i ⟨#[]⟩):=by
 by_cases hz:L.length=0
 ·exact .inl hz
 ·rcases h.2 with ⟨d,k⟩ | ⟨g,cap,cur,d,hb,j,h1,h2,h3,h4⟩
  ·exact absurd k hz
  ·simp only[CL] at d
   obtain⟨rfl,-,rfl⟩:=d;refine .inr ⟨g,0,rfl,aC j,fun i hi=>?_⟩;have f:=h.cells (g:=g) rfl i (U L[i]) (by simp[bq,hi]);rw[gZ] at f;show w.cell? ⟨g,0+i,none⟩=N (U (L.getD i ⟨#[]⟩));rw[vG,gq hi];exact f
theorem tE (k:Int)(t:ByteArray)(L:List ByteArray)(hL:L.length<=1048576)(a b:Option Addr)(c d m n:Nat)(w:E)(g:w.ownsRow m 9 1 (Z a L.length c) L.length (bq L))(hb:w.ownsRow n 9 1 (Z b L.length d) L.length (bq L)):Calls Tryz.prog 15 #[QE #[Q I k,U t,Z a L.length c],QE #[Q I k,U t,Z b L.length d]] w fun e l=>e=QD (.bool QC)/\Below w.heap.size w l:=by have f:=ae (((Qs w).alloc lr (T #[Q I k,U t,Z a L.length c] 41)).alloc (by simp) (T #[Q I k,U t,Z b L.length d] 41));have H:=ae (xH a b L.length c d (fun i=>L.getD i ⟨#[]⟩) ((w.alloc (T #[Q I k,U t,Z a L.length c] 41)).alloc (T #[Q I k,U t,Z b L.length d] 41)) hL ((vC g).below f lr) ((vC hb).below f lr));clear g hb;go_enter Tryz.func15,Tryz.ntmps15;go_wp2_with fail;refine H.mono ?_;rintro e w1 ⟨rfl,h⟩;have j:=ae (f.trans (h.mono (by simp;omega)));clear h;go_wp2;go_ret;exact⟨rfl,j⟩
theorem zm (a:Option Addr)(n d:Nat)(f:Nat->aj)(w:E)(hn:0<n)(h9:n<=1048576)(o:SlDeed w a n f):Calls Tryz.prog 25 #[QE #[Z a n d]] w fun e k=>e=QD (U (f (n - 1)).name)/\Below w.heap.size w k:=by
 have j:=ae ((Qs w).alloc lr (T #[Z a n d] 50));rcases o with h | ⟨b,off,rfl,g⟩
 ·omega
 have hb:=g.1;have i:=(j.cell (p:=⟨b,off+(n - 1)*6,none⟩) hb).trans (g.2 (n - 1) (by omega)).1;clear g;obtain⟨m,l⟩:∃ m,n=m+1:=⟨n - 1,by omega⟩
 subst l;rw[JE] at i ⊢;generalize (f m).name=t at i ⊢;have hw:IntKind.i64.wrap ((m:Int)+1 - 1)=(m:Int):=by rw[vF];omega
 go_enter Tryz.func25,Tryz.ntmps25;go_wp2;go_ret;exact⟨rfl,j⟩
def BR (f:Nat->aj)(l:Link):aA:=if l.ask=D then ⟨l.has,0,⟨#[]⟩⟩ else if (f l.at_.toNat).kind=2 then gE else ⟨QC,(f l.at_.toNat).code,(f l.at_.toNat).text⟩
end Go.Proofs.YtkdimgejdocbbaaGreatDoor.Vp
namespace Go.Proofs.YtkdimgejdocbbaaGreatDoor.Vp
open RowKit
theorem mW (S:Spc)(nm:ByteArray):((bj S nm).1=[]/\5<(bj S nm).2.code)∨∃ M e,SpcOk S/\au nm=QC/\aL S 60 [] [] nm=.inl (M,e)/\bj S nm=(M,cR e):=by
 unfold bj;split
 ·rename_i h
  split
  ·rename_i b e d
   exact .inr ⟨b,e,SpcOk.of h.1,h.2,d,rfl⟩
  ·exact .inl ⟨rfl,by show(5:Int)<6;decide⟩
  ·exact .inl ⟨rfl,by show(5:Int)<7;decide⟩
 ·exact .inl ⟨rfl,by show(5:Int)<9;decide⟩
section
variable {S:Spc}{M:List Ent}
theorem Ex (hM:PG S [] M){i:Nat}{x:Ent}(d:M[i]?=N x):aK M x.name=N x:=by
 cases h:aK M x.name with
 | none=>exact absurd rfl (dd h x (EQ d))
 | some y =>obtain⟨h1,h2⟩:=fB h;obtain⟨j,b⟩:=I8 h1;have g:=hM.idx d;have f:=hM.idx b;rw[h2,g] at f;subst f;rw[d] at b;exact b.symm
theorem DL (hM:PG S [] M){i:Nat}{x:Ent}(r:M[i]?=N x){l:Lk}(p:l∈x.looks):BR (dF (bk S M)) (lkD M l)=cj M l/\((lkD M l).ask=QC->0<=(lkD M l).at_/\(lkD M l).at_.toNat<M.length)/\bT (cj M l)=QC:=by
 by_cases b:l.ask=QC
 ·obtain⟨y,d,s,hlt⟩:=hM.asked r p b
  have o:(lkD M l).at_=((gI M l.name:Nat):Int):=by unfold lkD;simp[b]
  have f:(lkD M l).ask=QC:=b;have n:=Ex hM d;rw[s] at n;have m:=hM.ents y (EQ d);have hL:cj M l=fg y:=by unfold cj;rw[eT b,n];rfl
  have g:=(o3.1 d).1;refine⟨?_,fun _=>by rw[o,KV];exact⟨by omega,g⟩,by rw[hL];exact iO m⟩;unfold BR;rw[f,a8 (by simp),o,KV,fi d,hL];show(if y.kind=2 then gE else ⟨QC,y.code,y.text⟩)=fg y;unfold fg;rcases m.kind with ⟨k,-⟩ | ⟨k,h2,q,-⟩ | ⟨k,-⟩
  ·rw[a8 (by omega)];simp[k]
  ·rw[eT k];simp[k,h2,q,gE]
  ·rw[a8 (by omega)];simp[k]
 ·have j:l.ask=D:=by simpa using b
  have f:(lkD M l).ask=D:=j;have hL:cj M l=⟨l.has,0,⟨#[]⟩⟩:=by unfold cj;rw[a8 b]
  refine⟨?_,(fun h=>by rw[f] at h;cases h),by rw[hL];simp only[bT,j4];exact⟨by decide,by decide,by decide⟩⟩;unfold BR;rw[eT f,hL];rfl
theorem lF {b:List aA}(h:∀ y∈b,bT y=QC):∀ k,bR (yL b) k=QC
 | 0=>rfl
 | k+1=>by rw[bR,lF h k,wY h k];rfl
theorem Fg (o:SpcOk S)(hM:PG S [] M){i:Nat}{x:Ent}(d:M[i]?=N x)(n:x.kind=3)(k:Nat):mC (bi S M x).act (bi S M x).actN (yL ((x.looks.take k).map (cj M))) ((x.looks.take k).map (cj M)).length=bF S x.tg ((x.looks.take k).map (cj M)):=by
 have f:=hM.ents x (EQ d);have j:x.tg<S.n1:=by
  rcases f.kind with ⟨k,-⟩ | ⟨k,-⟩ | ⟨-,-,h⟩
  ·omega
  ·omega
  ·exact(aT h).1
 have p:(bi S M x).actN=(S.f1 x.tg).actN:=by show bW S x=_;unfold bW;rw[eT n]
 have q:valid (bi S M x).act (S.f1 x.tg).actN=QC:=o.act _ j;have b:((x.looks.take k).map (cj M)).length<=200:=by rw[I4,IU];have:=f.looks;omega
 have m:∀ y∈(x.looks.take k).map (cj M),bT y=QC:=fun y g=>by obtain⟨l,b,rfl⟩:=ID.1 g;exact(DL hM d (JU b)).2.2
 unfold mC;rw[p,a8 (by rw[q];simp),a8 (by omega),a8 (by rw[lF m];simp)];rfl
theorem zn (hM:PG S [] M){e:Ent}(f:e∈M):(cR e).code<=5/\(e.kind=1/\(cR e).text=e.text∨e.kind=2/\(cR e).code=4∨e.kind=3/\(cR e).code=e.code/\(cR e).text=e.text):=by
 have d:=hM.ents e f;have b:=d.code;unfold cR;rcases d.kind with ⟨k,-⟩ | ⟨k,-⟩ | ⟨k,-⟩
 ·rw[a8 (by omega)];exact⟨b.2,.inl ⟨k,rfl⟩⟩
 ·rw[eT k];exact⟨by show(4:Int)<=5;decide,.inr (.inl ⟨k,rfl⟩)⟩
 ·rw[a8 (by omega)];exact⟨b.2,.inr (.inr ⟨k,rfl,rfl⟩)⟩
end
theorem BU {w:E}{b size n f c:Nat}{e:TypeId}{a:Option Addr}{i:List Value}(h:w.ownsRow b e size (Z a n c) f i):n<=c:=by
 rcases h.2 with ⟨d,h0⟩ | ⟨g,cap,cur,d,hb,hg,hc,_⟩
 ·simp only[CL] at d
  omega
 ·simp only[CL] at d
  omega
end Go.Proofs.YtkdimgejdocbbaaGreatDoor.Vp
