import Derived.Test.YtkdimgejdocbbaaGreatDoorXB
import Derived.Test.YtkdimgejdocbbaaGreatDoorZA
import Derived.Test.YtkdimgejdocbbaaGreatDoorZY
import Derived.WalkSmall
set_option maxRecDepth 100000
set_option maxHeartbeats 2000000
open Go.Value renaming slice->Y,string->U,int->N,agg->QE
open Go.Obj renaming cells->T
open Option renaming some->Q
open Go.IntKind renaming i64->I
open Go renaming World->E
open Bool renaming false->D,true->QC
open Go.Ending renaming returned->QD
namespace Go.Proofs.YtkdimgejdocbbaaGreatDoor.Vp
open RowKit Ca
theorem xH (a b:Option Addr)(n c d:Nat)(f:Nat->ByteArray)(w:E)(hn:n<=1048576)(o:SlStr w a n f)(hb:SlStr w b n f):Calls Tryz.prog 31 #[Y a n c,Y b n d] w fun e t=>e=QD (.bool QC)/\Below w.heap.size w t:=by
 have q:=ae o;have r:=ae hb;clear o hb;go_enter Tryz.func31,Tryz.ntmps31;go_wp2_with fail;go_loopw [5] (fun i wr=>∃ k:Nat,k<=n/\i=N I k/\Hid (Below w.heap.size w wr)) (fun i _=>n - (intOf i).toNat);case atStart=>exact⟨0,by omega,rfl,eI _ _⟩
 case round =>
  obtain⟨k,hk,rfl,g⟩:=hrel;by_cases j:k<n
  ·rcases q.below g.out lr with h | ⟨sb,so,rfl,l⟩
   ·omega
   rcases r.below g.out lr with h | ⟨tb,sp,rfl,m⟩
   ·omega
   have s:=l.2 k j;have u:=m.2 k j;have hsb:=l.1;have htb:=m.1;clear l m;have hlt2:(k:Int)<n:=by omega
   go_wp2_with fail;go_quiet (fail);have p:=ae (wC g nq);clear s u;generalize wr.drewN nq=W at p ⊢;go_wp2;exact⟨⟨k+1,by omega,by go_num,p⟩,by simp[intOf];omega⟩
  ·obtain rfl:k=n:=by omega
   go_wp2;go_ret;exact⟨rfl,g⟩
theorem vC {w:E}{b c:Nat}{a:Option Addr}{L:List ByteArray}(h:w.ownsRow b 9 1 (Y a L.length c) L.length (bq L)):SlStr w a L.length (fun i=>L.getD i ⟨#[]⟩):=by
 by_cases hz:L.length=0
 ·exact .inl hz
 ·rcases h.2 with ⟨d,k⟩ | ⟨g,cap,cur,d,hb,j,h1,h2,h3,h4⟩
  ·exact absurd k hz
  ·simp only[CN] at d
   obtain⟨rfl,-,rfl⟩:=d;refine .inr ⟨g,0,rfl,aC j,fun i hi=>?_⟩;have f:=h.cells (g:=g) rfl i (U L[i]) (by simp[bq,hi]);rw[gZ] at f;show w.cell? ⟨g,0+i,none⟩=Q (U (L.getD i ⟨#[]⟩));rw[vF,gq hi];exact f
theorem tE (k:Int)(t:ByteArray)(L:List ByteArray)(hL:L.length<=1048576)(a b:Option Addr)(c d l j:Nat)(w:E)(h:w.ownsRow l 9 1 (Y a L.length c) L.length (bq L))(hb:w.ownsRow j 9 1 (Y b L.length d) L.length (bq L)):Calls Tryz.prog 15 #[QE #[N I k,U t,Y a L.length c],QE #[N I k,U t,Y b L.length d]] w fun e n=>e=QD (.bool QC)/\Below w.heap.size w n:=by have f:=ae (((Qs w).alloc lr (T #[N I k,U t,Y a L.length c] 41)).alloc (by simp) (T #[N I k,U t,Y b L.length d] 41));have H:=ae (xH a b L.length c d (fun i=>L.getD i ⟨#[]⟩) ((w.alloc (T #[N I k,U t,Y a L.length c] 41)).alloc (T #[N I k,U t,Y b L.length d] 41)) hL ((vC h).below f lr) ((vC hb).below f lr));clear h hb;go_enter Tryz.func15,Tryz.ntmps15;go_wp2_with fail;refine H.mono ?_;rintro e w1 ⟨rfl,g⟩;have m:=ae (f.trans (g.mono (by simp;omega)));clear g;go_wp2;go_ret;exact⟨rfl,m⟩
theorem zm (a:Option Addr)(n d:Nat)(f:Nat->aj)(w:E)(hn:0<n)(h9:n<=1048576)(o:SlDeed w a n f):Calls Tryz.prog 25 #[QE #[Y a n d]] w fun e k=>e=QD (U (f (n - 1)).name)/\Below w.heap.size w k:=by
 have j:=ae ((Qs w).alloc lr (T #[Y a n d] 50));rcases o with h | ⟨b,off,rfl,g⟩
 ·omega
 have hb:=g.1;have i:=(j.cell (p:=⟨b,off+(n - 1)*6,none⟩) hb).trans (g.2 (n - 1) (by omega)).1;clear g;obtain⟨m,l⟩:∃ m,n=m+1:=⟨n - 1,by omega⟩
 subst l;rw[JD] at i ⊢;generalize (f m).name=t at i ⊢;have hw:IntKind.i64.wrap ((m:Int)+1 - 1)=(m:Int):=by rw[p9];omega
 go_enter Tryz.func25,Tryz.ntmps25;go_wp2;go_ret;exact⟨rfl,j⟩
def BR (f:Nat->aj)(l:Link):aA:=if l.ask=D then ⟨l.has,0,⟨#[]⟩⟩ else if (f l.at_.toNat).kind=2 then gE else ⟨QC,(f l.at_.toNat).code,(f l.at_.toNat).text⟩
end Go.Proofs.YtkdimgejdocbbaaGreatDoor.Vp
namespace Go.Proofs.YtkdimgejdocbbaaGreatDoor.Vp
open RowKit
theorem mW (S:Spc)(nm:ByteArray):((bj S nm).1=[]/\5<(bj S nm).2.code)∨∃ M e,SpcOk S/\au nm=QC/\aL S 60 [] [] nm=.inl (M,e)/\bj S nm=(M,cR e):=by
 unfold bj;split
 ·rename_i h
  split
  ·rename_i b e d
   exact .inr ⟨b,e,SpcOk.of h.1,h.2,d,rfl⟩
  ·exact .inl ⟨rfl,by show(5:Int)<6;decide⟩
  ·exact .inl ⟨rfl,by show(5:Int)<7;decide⟩
 ·exact .inl ⟨rfl,by show(5:Int)<9;decide⟩
section
variable {S:Spc}{M:List Ent}
theorem Ex (hM:PG S [] M){i:Nat}{x:Ent}(d:M[i]?=Q x):aK M x.name=Q x:=by
 cases h:aK M x.name with
 | none=>exact absurd rfl (dd h x (D0 d))
 | some y =>obtain⟨h1,h2⟩:=fB h;obtain⟨j,b⟩:=I7 h1;have g:=hM.idx d;have f:=hM.idx b;rw[h2,g] at f;subst f;rw[d] at b;exact b.symm
theorem DL (hM:PG S [] M){i:Nat}{x:Ent}(r:M[i]?=Q x){l:Lk}(p:l∈x.looks):BR (dF (bk S M)) (lkD M l)=cj M l/\((lkD M l).ask=QC->0<=(lkD M l).at_/\(lkD M l).at_.toNat<M.length)/\bT (cj M l)=QC:=by
 by_cases b:l.ask=QC
 ·obtain⟨y,f,s,hlt⟩:=hM.asked r p b
  have o:(lkD M l).at_=((gI M l.name:Nat):Int):=by unfold lkD;simp[b]
  have d:(lkD M l).ask=QC:=b;have m:=Ex hM f;rw[s] at m;have j:=hM.ents y (D0 f);have hL:cj M l=fg y:=by unfold cj;rw[eT b,m];rfl
  have g:=(kS.1 f).1;refine⟨?_,fun _=>by rw[o,KQ];exact⟨by omega,g⟩,by rw[hL];exact iO j⟩;unfold BR;rw[d,a8 (by simp),o,KQ,fi f,hL];show(if y.kind=2 then gE else ⟨QC,y.code,y.text⟩)=fg y;unfold fg;rcases j.kind with ⟨k,-⟩ | ⟨k,h2,q,-⟩ | ⟨k,-⟩
  ·rw[a8 (by omega)];simp[k]
  ·rw[eT k];simp[k,h2,q,gE]
  ·rw[a8 (by omega)];simp[k]
 ·have n:l.ask=D:=by simpa using b
  have d:(lkD M l).ask=D:=n;have hL:cj M l=⟨l.has,0,⟨#[]⟩⟩:=by unfold cj;rw[a8 b]
  refine⟨?_,(fun h=>by rw[d] at h;cases h),by rw[hL];simp only[bT,j4];exact⟨by decide,by decide,by decide⟩⟩;unfold BR;rw[eT d,hL];rfl
theorem lF {b:List aA}(h:∀ y∈b,bT y=QC):∀ k,bR (yL b) k=QC
 | 0=>rfl
 | k+1=>by rw[bR,lF h k,wY h k];rfl
theorem Fg (m:SpcOk S)(hM:PG S [] M){i:Nat}{x:Ent}(f:M[i]?=Q x)(g:x.kind=3)(k:Nat):mC (bi S M x).act (bi S M x).actN (yL ((x.looks.take k).map (cj M))) ((x.looks.take k).map (cj M)).length=bF S x.tg ((x.looks.take k).map (cj M)):=by
 have d:=hM.ents x (D0 f);have j:x.tg<S.n1:=by
  rcases d.kind with ⟨k,-⟩ | ⟨k,-⟩ | ⟨-,-,h⟩
  ·omega
  ·omega
  ·exact(aT h).1
 have p:(bi S M x).actN=(S.f1 x.tg).actN:=by show bW S x=_;unfold bW;rw[eT g]
 have q:valid (bi S M x).act (S.f1 x.tg).actN=QC:=m.act _ j;have b:((x.looks.take k).map (cj M)).length<=200:=by rw[IZ,IT];have:=d.looks;omega
 have o:∀ y∈(x.looks.take k).map (cj M),bT y=QC:=fun y n=>by obtain⟨l,b,rfl⟩:=IC.1 n;exact(DL hM f (JT b)).2.2
 unfold mC;rw[p,a8 (by rw[q];simp),a8 (by omega),a8 (by rw[lF o];simp)];rfl
theorem zn (hM:PG S [] M){e:Ent}(f:e∈M):(cR e).code<=5/\(e.kind=1/\(cR e).text=e.text∨e.kind=2/\(cR e).code=4∨e.kind=3/\(cR e).code=e.code/\(cR e).text=e.text):=by
 have d:=hM.ents e f;have b:=d.code;unfold cR;rcases d.kind with ⟨k,-⟩ | ⟨k,-⟩ | ⟨k,-⟩
 ·rw[a8 (by omega)];exact⟨b.2,.inl ⟨k,rfl⟩⟩
 ·rw[eT k];exact⟨by show(4:Int)<=5;decide,.inr (.inl ⟨k,rfl⟩)⟩
 ·rw[a8 (by omega)];exact⟨b.2,.inr (.inr ⟨k,rfl,rfl⟩)⟩
end
theorem BU {w:E}{b size n i c:Nat}{e:TypeId}{a:Option Addr}{f:List Value}(h:w.ownsRow b e size (Y a n c) i f):n<=c:=by
 rcases h.2 with ⟨d,h0⟩ | ⟨g,cap,cur,d,hb,hg,hc,_⟩
 ·simp only[CN] at d
  omega
 ·simp only[CN] at d
  omega
end Go.Proofs.YtkdimgejdocbbaaGreatDoor.Vp
