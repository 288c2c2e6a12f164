import Derived.Test.YtamacmnikdejeaaGreatDoorXZ
import Derived.Test.YtamacmnikdejeaaGreatDoorXO
import Derived.Test.YtamacmnikdejeaaGreatDoorXI
set_option maxRecDepth 100000
set_option maxHeartbeats 8000000
set_option linter.unusedSimpArgs false
open Go.Addr renaming mk->T
open Go.Value renaming slice->Y,string->U,int->I,agg->QV
open Option renaming none->Z,some->N
open Go.Obj renaming cells->Q
open Go.IntKind renaming i64->J
open Go renaming World->H,Value->QS
open Bool renaming false->QQ
open Go.Ending renaming returned->QU
namespace Go.Proofs.YtamacmnikdejeaaGreatDoor.Vp
open RowKit Ca
theorem qd (a b:Option Addr)(n c d:Nat)(f:Nat->ByteArray)(w:H)(hn:n<=1048576)(o:SlStr w a n f)(hb:SlStr w b n f):Calls Tryz.prog 14 #[Y a n c,Y b n d] w fun e t=>e=QU (.bool true)/\Below w.heap.size w t:=by
 have q:=ae o;have s:=ae hb;clear o hb;go_enter Tryz.func14,Tryz.ntmps14;go_wp2_with fail;go_loopw [5] (fun i wr=>∃ k:Nat,k<=n/\i=I J k/\Hid (Below w.heap.size w wr)) (fun i _=>n - (intOf i).toNat);case atStart=>exact⟨0,by omega,rfl,eL _ _⟩
 case round =>
  obtain⟨k,hk,rfl,g⟩:=hrel;by_cases j:k<n
  ·rcases q.below g.out ly with h | ⟨sb,so,rfl,m⟩
   ·omega
   rcases s.below g.out ly with h | ⟨tb,sp,rfl,l⟩
   ·omega
   have r:=m.2 k j;have u:=l.2 k j;have hsb:=m.1;have htb:=l.1;clear m l;have hlt2:(k:Int)<n:=by omega
   go_wp2_with fail;go_quiet (fail);have p:=ae (F6 g nq);clear r u;generalize wr.drewN nq=W at p ⊢;go_wp2;exact⟨⟨k+1,by omega,by go_num,p⟩,by simp[intOf];omega⟩
  ·obtain rfl:k=n:=by omega
   go_wp2;go_ret;exact⟨rfl,g⟩
end Go.Proofs.YtamacmnikdejeaaGreatDoor.Vp
namespace Go.Proofs.YtamacmnikdejeaaGreatDoor.Vp
open RowKit
theorem kL (S:Spc)(nm:ByteArray):((aG S nm).1=[]/\5<(aG S nm).2.code)∨∃ M e,SpcOk S/\av nm=true/\aX S 60 [] [] nm=.inl (M,e)/\aG S nm=(M,dK e):=by
 unfold aG;split
 ·rename_i h
  split
  ·rename_i b e c
   exact .inr ⟨b,e,SpcOk.of h.1,h.2,c,rfl⟩
  ·exact .inl ⟨rfl,by show(5:Int)<6;decide⟩
  ·exact .inl ⟨rfl,by show(5:Int)<7;decide⟩
 ·exact .inl ⟨rfl,by show(5:Int)<9;decide⟩
section
variable {S:Spc}{M:List Ent}
end
end Go.Proofs.YtamacmnikdejeaaGreatDoor.Vp
namespace Go.Proofs.YtamacmnikdejeaaGreatDoor.Vp
open RowKit Ca
def Fr (xs:List Nat)(W W':H):Prop:=W.heap.size<=W'.heap.size/\∀ k,k<W.heap.size->k ∉ xs->W'.heap[k]?=W.heap[k]?
theorem Fr.trans {xs:List Nat}{W V QY:H}(h:Fr xs W V)(g:Fr xs V QY):Fr xs W QY:=⟨j4 h.1 g.1,fun k h1 h2=>(g.2 k (lj h1 h.1) h2).trans (h.2 k h1 h2)⟩
theorem Fr.below {xs:List Nat}{W V:H}(h:Below W.heap.size W V):Fr xs W V:=⟨h.size,fun k h1 _=>h.block k h1⟩
theorem Fr.only {xs:List Nat}{R:Nat}{W V:H}(h:Only R W V)(hR:R∈xs):Fr xs W V:=⟨h.size,fun k h1 h2=>h.block k h1 (fun e=>h2 (e ▸ hR))⟩
theorem Fr.set {xs:List Nat}{x j:Nat}{W:H}(b:x∈xs)(u:QS):Fr xs W (W.setCell (T x j Z) u):=⟨by simp,fun k _ h2=>qh W (T x j Z) u k (fun e=>h2 ((show k=x from e) ▸ b))⟩
def qO (xs:List Nat)(b z:Nat):Prop:=∀ x∈xs,x<b∨z<=x
theorem Agr.fr {xs:List Nat}{b:Nat}{c W V:H}(h:Agr b c W)(g:qO xs b c.heap.size)(f:Fr xs W V):Agr b c V :=
 ⟨j4 h.1 f.1,fun k h1 h2=>(f.2 k (lj h2 h.1) (fun j=>by rcases g k j with i | i<;>omega)).trans (h.2 k h1 h2)⟩
def Gd (n0 n1:Nat)(f1:Nat->Target):Prop:=n0<=250/\n1<=250/\∀ i,i<n1->1<=(f1 i).actN/\(f1 i).actN<=200
def HSg (b:Nat)(w:H)(a0:Option Addr)(n0:Nat)(f0:Nat->Source)(a1:Option Addr)(n1:Nat)(f1:Nat->Target):Prop:=HSp b w a0 n0 f0 a1 n1 f1/\Gd n0 n1 f1
def QSp (lo:Nat)(xs:List Nat)(W:H)(a0:Option Addr)(n0:Nat)(f0:Nat->Source)(a1:Option Addr)(n1:Nat)(f1:Nat->Target):Prop:=∃ (b:Nat) (c:H),lo<=b/\HSg b c a0 n0 f0 a1 n1 f1/\Agr b c W/\qO xs b c.heap.size
def QAc (lo:Nat)(xs:List Nat)(W:H)(a:Option Addr)(n c:Nat)(f:Nat->aj):Prop:=∃ (b:Nat) (g:H),lo<=b/\HAc b g a n c f/\Agr b g W/\qO xs b g.heap.size
section
variable {lo b:Nat}{xs:List Nat}{W V:H}{a0 a1 a:Option Addr}{n0 n1 n c:Nat}{f0:Nat->Source}{f1:Nat->Target}{f:Nat->aj}
theorem QSp.fr (h:QSp lo xs W a0 n0 f0 a1 n1 f1)(g:Fr xs W V):QSp lo xs V a0 n0 f0 a1 n1 f1:=by obtain⟨b,i,f,h1,h2,c⟩:=h;exact⟨b,i,f,h1,h2.fr c g,c⟩
theorem QAc.fr (h:QAc lo xs W a n c f)(j:Fr xs W V):QAc lo xs V a n c f:=by obtain⟨b,l,i,h1,h2,g⟩:=h;exact⟨b,l,i,h1,h2.fr g j,g⟩
theorem QSp.at (h:QSp lo xs W a0 n0 f0 a1 n1 f1):HSg lo W a0 n0 f0 a1 n1 f1:=by obtain⟨b,w1,c,h1,h2,-⟩:=h;exact⟨(h1.1.agr h2).mono c,h1.2⟩
theorem QAc.at (h:QAc lo xs W a n c f):HAc lo W a n c f:=by obtain⟨b,w1,g,h1,h2,-⟩:=h;exact(h1.agr h2).mono g
theorem QSp.new (h:HSg b W a0 n0 f0 a1 n1 f1)(f:lo<=b)(c:qO xs b W.heap.size):QSp lo xs W a0 n0 f0 a1 n1 f1:=⟨b,W,f,h,Agr.refl _ _,c⟩
theorem QAc.new (h:HAc b W a n c f)(i:lo<=b)(g:qO xs b W.heap.size):QAc lo xs W a n c f:=⟨b,W,i,h,Agr.refl _ _,g⟩
end
theorem DU (S:Spc)(nm:ByteArray):(aG S nm).1.length<=400:=by
 rcases kL S nm with ⟨h1,-⟩ | ⟨M,e,c,-,h2,b⟩
 ·rw[h1];exact AI _
 ·rw[b];exact pQ c h2
theorem oZ {W:H}{f c:Nat}{a:Option Addr}{S:Spc}{nm:ByteArray}{R:List DR}(h:DRow W f (Y a R.length c) R)(g:R.map (·.1)=aM S (aG S nm).1):HAc f W a R.length c (dF (aM S (aG S nm).1))/\R.length<=400/\∀ i,i<R.length->FitD (dF (aM S (aG S nm).1) i)/\(dF (aM S (aG S nm).1) i).text.size<=2000/\(dF (aM S (aG S nm).1) i).actN<=200/\(dF (aM S (aG S nm).1) i).linksN<=200:=by
 have m:R.length=(aG S nm).1.length:=by have:=JN List.length g;simpa[aM] using this
 have hn:R.length<=400:=by rw[m];exact DU S nm
 have l:∀ r∈R,FitD r.1/\r.1.text.size<=2000/\r.1.actN<=200/\r.1.linksN<=200:=fun r b=>Ds S nm r.1 (by rw[<-g];exact MC b);have h1:=Ap h (fun r b=>(l r b).1) (by omega);rw[g] at h1;refine⟨h1,hn,fun i hi=>?_⟩;obtain⟨r,b,j⟩:=dI hi;rw[<-g,iF b];exact l r j
def MkA (w:H)(e:Ending)(b:H):Prop:=∃ (a:Option Addr) (n c:Nat) (f:Nat->aj) (k:Int) (t:ByteArray) (ra:Option Addr) (h g:Nat),e=QU (.tuple #[QV #[Y a n c],QV #[I J k,U t,Y ra h g]])/\HAc w.heap.size b a n c f/\n<=400/\(∀ i,i<n->FitI (f i))/\Below w.heap.size w b
theorem qP (b n0 c0 n1 c1:Nat)(a0:Option Addr)(f0:Nat->Source)(a1:Option Addr)(f1:Nat->Target)(w:H)(nm:ByteArray)(hH:HSp b w a0 n0 f0 a1 n1 f1):Calls Tryz.prog 11 #[QV #[Y a0 n0 c0,Y a1 n1 c1],U nm] w fun e f=>MkA w e f:=by have h0:=hH.hn0;have h1:=hH.hn1;refine(jQ (S:=⟨n0,f0,n1,f1⟩) (a0:=a0) (a1:=a1) (c0:=c0) (c1:=c1) w nm (hH.sl w (Agr.refl _ _)).1 (hH.sl w (Agr.refl _ _)).2 (by show n0<=_;omega) (by show n1<=_;omega) (fun i hi=>by have:=(hH.fit i hi).1;unfold bP;show(f1 i).actN<=_;omega) (fun i hi j p=>by have:=(hH.fit i hi).2 j p;unfold maxLen;show((f1 i).act j).s.size<=_;omega)).mono ?_;rintro e f ⟨a,c,R,rv,rfl,l,h,⟨ra,o,rfl,-⟩,n⟩;obtain⟨h2,g,m⟩:=oZ l h;exact⟨a,R.length,c,_,_,_,ra,_,o,rfl,h2,g,m,n⟩
structure Dr1 (xs:List Nat)(w:H)(R rs ra sb:Nat)(W:H)(q n0 c0 n1 c1:Nat)(a0:Option Addr)(f0:Nat->Source)(a1:Option Addr)(f1:Nat->Target):Prop where
 rd:Rd W R q
 o:Only R w W
 zs:W.heap[rs]?=N (Q #[Y Z 0 0,Y Z 0 0] 29 (0,0))
 za:W.heap[ra]?=N (Q #[Y Z 0 0] 25 (0,0))
 sx:W.heap[sb]?=N (Q #[Y a0 n0 c0,Y a1 n1 c1] 29 (0,0))
 qs:QSp w.heap.size xs W a0 n0 f0 a1 n1 f1
 lo:R<w.heap.size
 hb:w.heap.size<=rs/\w.heap.size<=ra/\w.heap.size<=sb
structure Dr2 (xs:List Nat)(w:H)(R rs ra sb ab:Nat)(W:H)(q n0 c0 n1 c1:Nat)(a0:Option Addr)(f0:Nat->Source)(a1:Option Addr)(f1:Nat->Target)(n c:Nat)(a:Option Addr)(f:Nat->aj):Prop where
 d:Dr1 xs w R rs ra sb W q n0 c0 n1 c1 a0 f0 a1 f1
 ax:W.heap[ab]?=N (Q #[Y a n c] 25 (0,0))
 qa:QAc w.heap.size xs W a n c f
 hb:w.heap.size<=ab
section
variable {xs:List Nat}{w W W':H}{R rs ra sb ab q q' n0 c0 n1 c1 n c:Nat}{a0 a1 a:Option Addr}{f0:Nat->Source}{f1:Nat->Target}{f:Nat->aj}
theorem Dr1.only (h:Dr1 xs w R rs ra sb W q n0 c0 n1 c1 a0 f0 a1 f1)(b:Only R W W')(hR:Rd W' R q')(c:R∈xs):Dr1 xs w R rs ra sb W' q' n0 c0 n1 c1 a0 f0 a1 f1:=by have hl:=h.lo;obtain⟨h1,h2,h3⟩:=h.hb;exact⟨hR,h.o.trans b,(b.block _ (ai h.zs) (by omega)).trans h.zs,(b.block _ (ai h.za) (by omega)).trans h.za,(b.block _ (ai h.sx) (by omega)).trans h.sx,h.qs.fr (Fr.only b c),h.lo,h.hb⟩
theorem Dr1.below (h:Dr1 xs w R rs ra sb W q n0 c0 n1 c1 a0 f0 a1 f1)(b:Below W.heap.size W W')(c:R∈xs):Dr1 xs w R rs ra sb W' q n0 c0 n1 c1 a0 f0 a1 f1:=h.only (Only.of_below b) (h.rd.below b ly) c
theorem Dr1.cells (h:Dr1 xs w R rs ra sb W q n0 c0 n1 c1 a0 f0 a1 f1):W.cell? (T sb 0 Z)=N (Y a0 n0 c0)/\W.cell? (T sb 1 Z)=N (Y a1 n1 c1)/\W.frozen? (T sb 0 Z)=QQ/\W.frozen? (T sb 1 Z)=QQ/\sb<W.heap.size:=by have hb:=h.sx;refine⟨?_,?_,?_,?_,ai hb⟩<;>simp[World.cell?,World.frozen?,hb]
theorem Dr1.more (h:Dr1 xs w R rs ra sb W q n0 c0 n1 c1 a0 f0 a1 f1){x:Nat}(f:W.heap.size<=x):Dr1 (x :: xs) w R rs ra sb W q n0 c0 n1 c1 a0 f0 a1 f1:=by
 obtain⟨b,j,i,h1,h2,g⟩:=h.qs;refine⟨h.rd,h.o,h.zs,h.za,h.sx,⟨b,j,i,h1,h2,fun y c=>?_⟩,h.lo,h.hb⟩;rcases nD.1 c with rfl | c
 ·exact .inr (j4 h2.1 f)
 ·exact g y c
theorem Dr2.only (h:Dr2 xs w R rs ra sb ab W q n0 c0 n1 c1 a0 f0 a1 f1 n c a f)(b:Only R W W')(hR:Rd W' R q')(g:R∈xs):Dr2 xs w R rs ra sb ab W' q' n0 c0 n1 c1 a0 f0 a1 f1 n c a f:=by have hl:=h.d.lo;have h1:=h.hb;exact⟨h.d.only b hR g,(b.block _ (ai h.ax) (by omega)).trans h.ax,h.qa.fr (Fr.only b g),h.hb⟩
theorem Dr2.below (h:Dr2 xs w R rs ra sb ab W q n0 c0 n1 c1 a0 f0 a1 f1 n c a f)(b:Below W.heap.size W W')(g:R∈xs):Dr2 xs w R rs ra sb ab W' q n0 c0 n1 c1 a0 f0 a1 f1 n c a f:=h.only (Only.of_below b) (h.d.rd.below b ly) g
theorem Dr2.acc (h:Dr2 xs w R rs ra sb ab W q n0 c0 n1 c1 a0 f0 a1 f1 n c a f):W.cell? (T ab 0 Z)=N (Y a n c)/\W.frozen? (T ab 0 Z)=QQ/\ab<W.heap.size:=by have hb:=h.ax;refine⟨?_,?_,ai hb⟩<;>simp[World.cell?,World.frozen?,hb]
theorem jR {W:H}{i j:Nat}{c l:Array QS}{t b:TypeId}{z m:Nat × Nat}(h:W.heap[i]?=N (Q c t z))(g:W.heap[j]?=N (Q l b m))(f:t≠b):i≠j:=fun e=>by rw[e,g] at h;simp at h;exact f h.2.1.symm
theorem Dr1.put {m0 k0 c k1:Nat}{b0 b:Option Addr}{g:Nat->Source}{l:Nat->Target}(h:Dr1 xs w R rs ra sb W q n0 c0 n1 c1 a0 f0 a1 f1)(f:sb∈xs)(r:rs≠sb)(n:QSp w.heap.size xs W b0 m0 g b c l):Dr1 xs w R rs ra sb ((W.setCell (T sb 0 Z) (Y b0 m0 k0)).setCell (T sb 1 Z) (Y b c k1)) q m0 k0 c k1 b0 g b l:=by obtain⟨h1,h2,i⟩:=h.hb;have B:=((eL w.heap.size W).setCell (p:=(T sb 0 Z)) i (Y b0 m0 k0)).setCell (p:=(T sb 1 Z)) i (Y b c k1);have far:∀ k,k≠sb->((W.setCell (T sb 0 Z) (Y b0 m0 k0)).setCell (T sb 1 Z) (Y b c k1)).heap[k]?=W.heap[k]?:=fun k j=>(qh _ _ _ _ j).trans (qh _ _ _ _ j);have m:=h.sx;exact⟨h.rd.low B h.lo,h.o.then B,(far _ r).trans h.zs,(far _ (jR h.za h.sx (by decide))).trans h.za,by simp[World.setCell,JR,m],n.fr ((Fr.set f _).trans (Fr.set f _)),h.lo,h.hb⟩
theorem Dr1.aset (h:Dr1 xs w R rs ra sb W q n0 c0 n1 c1 a0 f0 a1 f1){x j:Nat}(b:x∈xs)(h1:x≠sb)(h2:x≠ra)(f:x≠rs)(g:w.heap.size<=x)(u:QS):Dr1 xs w R rs ra sb (W.setCell (T x j Z) u) q n0 c0 n1 c1 a0 f0 a1 f1:=by have B:=(eL w.heap.size W).setCell (p:=(T x j Z)) g u;have far:∀ k,k≠x->(W.setCell (T x j Z) u).heap[k]?=W.heap[k]?:=fun k c=>qh _ _ _ _ c;exact⟨h.rd.low B h.lo,h.o.then B,(far _ (fun e=>f e.symm)).trans h.zs,(far _ (fun e=>h2 e.symm)).trans h.za,(far _ (fun e=>h1 e.symm)).trans h.sx,h.qs.fr (Fr.set b u),h.lo,h.hb⟩
theorem Dr2.put {m k:Nat}{b:Option Addr}{g:Nat->aj}(h:Dr2 xs w R rs ra sb ab W q n0 c0 n1 c1 a0 f0 a1 f1 n c a f)(i:ab∈xs)(l:ab≠ra)(j:QAc w.heap.size xs W b m k g):Dr2 xs w R rs ra sb ab (W.setCell (T ab 0 Z) (Y b m k)) q n0 c0 n1 c1 a0 f0 a1 f1 m k b g :=
 ⟨h.d.aset i (jR h.ax h.d.sx (by decide)) l (jR h.ax h.d.zs (by decide)) h.hb _,bM h.ax _,j.fr (Fr.set i _),h.hb⟩
end
def DSA (w:H)(R q:Nat)(e:Ending)(b:H):Prop:=∃ (a0:Option Addr) (n0 c0:Nat) (f0:Nat->Source) (a1:Option Addr) (n1 c1:Nat) (f1:Nat->Target) (a:Option Addr) (n c:Nat) (f:Nat->aj),e=QU (.tuple #[QV #[Y a0 n0 c0,Y a1 n1 c1],QV #[Y a n c]])/\HSg w.heap.size b a0 n0 f0 a1 n1 f1/\HAc w.heap.size b a n c f/\n<=400/\(∀ i,i<n->FitI (f i))/\∃ q':Nat,q'<=q/\Rd b R q'/\Only R w b
theorem yP (R p:Nat)(w:H)(hR:Rd w R p)(hp:p<=9000):Calls Tryz.prog 48 #[.pointer (N (T R 0 Z))] w fun e w'=>DSA w R (p+5300) e w':=by
 have HR:=ae hR;have Q9:=hR.lt;have Fn:((w.alloc (Q #[Y Z 0 0,Y Z 0 0] 29)).alloc (Q #[Y Z 0 0] 25)).heap.size=w.heap.size+2:=by simp
 have A0:=ae (((q9 w).alloc ly (Q #[Y Z 0 0,Y Z 0 0] 29)).alloc (by simp) (Q #[Y Z 0 0] 25));have KS:Hid (((w.alloc (Q #[Y Z 0 0,Y Z 0 0] 29)).alloc (Q #[Y Z 0 0] 25)).heap[w.heap.size]?=N (Q #[Y Z 0 0,Y Z 0 0] 29 (0,0))):=(((eL (w.heap.size+1) (w.alloc (Q #[Y Z 0 0,Y Z 0 0] 29))).alloc (by simp) _).block w.heap.size (j2 _)).trans (cM w _);have KA:Hid (((w.alloc (Q #[Y Z 0 0,Y Z 0 0] 29)).alloc (Q #[Y Z 0 0] 25)).heap[w.heap.size+1]?=N (Q #[Y Z 0 0] 25 (0,0))):=LH w _ _;clear hR;go_enter Tryz.func48,Tryz.ntmps48;go_wp2_with fail;generalize (w.alloc (Q #[Y Z 0 0,Y Z 0 0] 29)).alloc (Q #[Y Z 0 0] 25)=W0 at A0 KS KA Fn ⊢;refine(aw R p 40 _ (HR.below A0 ly) (by omega) (by omega) (by omega)).mono ?_;rintro e w1 ⟨z,rfl,hz0,hz1,n8,M⟩;have R1:=ae n8;have O1:=ae ((Only.of_below A0).trans M);have At:=ae ((M.block w.heap.size (by omega) (by omega)).trans KS);have ur:=ae ((M.block (w.heap.size+1) (by omega) (by omega)).trans KA);have hs1:=M.size;clear n8 M KS KA A0 HR;go_wp2_with fail;refine(pW R _ _ R1 (by omega)).mono ?_;rintro e G ⟨QY,W,v0,v1,rfl,ho,ht,hG,GF,GH,q2,hq2,ph,O⟩;obtain⟨a0,c0,rfl⟩:=aF ho;obtain⟨a1,c1,rfl⟩:=aF ht.own;have hD:=wM ho ht hG (by omega) (by omega);have hH:HSg _ _ _ _ _ _ _ _:=⟨hD.1,by omega,by omega,hD.2⟩
 clear hD;have hs2:=O.size;have QX:=(q9 G).alloc ly (Q #[Y a0 QY.length c0,Y a1 W.length c1] 29);have E:Hid (Dr1 [R,w.heap.size,w.heap.size+1,G.heap.size] w R w.heap.size (w.heap.size+1) G.heap.size (G.alloc (Q #[Y a0 QY.length c0,Y a1 W.length c1] 29)) q2 QY.length c0 W.length c1 a0 (aR QY) a1 (aT (W.map (·.1)))):=by refine⟨ph.below QX ly,(O1.trans O).trans (Only.of_below QX),(QX.block _ (by omega)).trans ((O.block _ (by omega) (by omega)).trans At),(QX.block _ (by omega)).trans ((O.block _ (by omega) (by omega)).trans ur),cM G _,⟨w1.heap.size+2,G,by omega,hH,bh QX ly,fun x Q0=>?_⟩,Q9,by omega,by omega,by omega⟩;simp only[nD,nj,MA] at Q0;omega
 clear QX ho ht hG hH ph O O1 At ur R1;generalize QY.length=n0 at E GF ⊢;generalize W.length=n1 at E GH ⊢;generalize aR QY=f0 at E;generalize aT (W.map (·.1))=f1 at E;go_upto_region 3 with fail;have GK:w.heap.size+2<=G.heap.size:=by omega
 generalize G.alloc (Q #[Y a0 n0 c0,Y a1 n1 c1] 29)=W2 at E ⊢;generalize G.heap.size=sb at E GK ⊢;obtain⟨x0,QW,-⟩:=E.cells;go_wp2_with fail;refine(fC R _ w.heap.size n0 c0 n1 c1 a0 f0 a1 f1 _ E.rd (by omega) Q9 E.qs.at.1).mono ?_;rintro e w3 ⟨t,rfl,q3,hq3,qr,la⟩;have D2:=ae (E.only la qr (by simp));clear qr la E x0 QW;go_upto_if 18 with fail;go_cut [6] (fun s6 wx=>∃ (t:ByteArray) (q m0 j r g:Nat) (b0:Option Addr) (ZB:Nat->Source) (b:Option Addr) (QZ:Nat->Target),s6=U t/\q<=p+5200/\Hid (Dr1 [R,w.heap.size,w.heap.size+1,sb] w R w.heap.size (w.heap.size+1) sb wx q m0 j r g b0 ZB b QZ));case first =>
  by_cases hz:z=0
  ·subst hz
   go_wp2_with fail;refine(aw R _ 2 _ D2.rd (by omega) (by omega) (by omega)).mono ?_;rintro e w4 ⟨y,rfl,y0,y1,hR,hO⟩;have F:=ae (D2.only hO hR (by simp));clear hR hO D2;obtain⟨m,hm⟩:∃ m:Nat,60 - y=(m:Int):=⟨(60 - y).toNat,by omega⟩
   have hw:IntKind.i64.wrap (60 - y)=60 - y:=by rw[j6];omega
   go_wp2_with fail;have hs4:=ai F.sx;refine(kK m (by omega) ⟨#[97]⟩ (by decide) _).mono ?_;rintro e w5 ⟨b0,m0,j,ZB,b,g,mv,rfl,GD,Q2,th,-,-,ld,P⟩
   have hH:HSg _ _ _ _ _ _ _ _:=⟨th,Q2,by omega,fun i hi=>by
    have e:aT (mv.map (·.1)) i=mv[i].1:=by simp[aT,hi]
    rw[e,(ld _ (gj hi)).2]
    omega⟩
   clear th ld GD Q2;have hz5:=P.size;have D4:=ae (F.below P (by simp))
   have D5:=ae (D4.put (k0:=j) (k1:=g) (by simp) (by omega) (QSp.new hH (by omega) (fun x Q0=>by
    simp only[nD,nj,MA] at Q0
    omega)))
   obtain⟨x0,QW,x2,x3,x4⟩:=D4.cells;clear hH P F D4 hm hw;go_wp2;go_meet;exact⟨_,_,_,_,_,_,_,_,_,_,rfl,by omega,D5⟩
  ·have hzb:(z == 0)=QQ:=by simpa using hz
   go_wp2;go_meet;exact⟨t,q3,_,_,_,_,_,_,_,_,rfl,by omega,D2⟩
 case rest =>
 clear D2;obtain⟨t,q4,m0,j,r,g,b0,ZB,b,QZ,rfl,hq4,F⟩:=hcut;generalize wc=W3 at F ⊢;obtain⟨x0,QW,x2,x3,x4⟩:=F.cells;go_wp2_with fail;refine(qP w.heap.size m0 j r g b0 ZB b QZ _ t F.qs.at.1).mono ?_;rintro e A ⟨a,n,c,f,kk,tt,ra,rn,rc,rfl,hA,hn,hf,P⟩;have A6:=((q9 A).alloc ly (Q #[Y a n c] 25)).alloc (by simp) (Q #[I J kk,U tt,Y ra rn rc] 37);have Bk:((A.alloc (Q #[Y a n c] 25)).alloc (Q #[I J kk,U tt,Y ra rn rc] 37)).heap[A.heap.size]?=N (Q #[Y a n c] 25 (0,0)):=(((eL (A.heap.size+1) (A.alloc (Q #[Y a n c] 25))).alloc (by simp) _).block A.heap.size (j2 _)).trans (cM A _);have Fm:=P.size;have hws:=F.o.size;have E1:Hid (Dr2 [A.heap.size,R,w.heap.size,w.heap.size+1,sb] w R w.heap.size (w.heap.size+1) sb A.heap.size ((A.alloc (Q #[Y a n c] 25)).alloc (Q #[I J kk,U tt,Y ra rn rc] 37)) q4 m0 j r g b0 ZB b QZ n c a f):=by refine⟨((F.below P (by simp)).more ly).below A6 (by simp),Bk,⟨W3.heap.size,A,by omega,hA,bh A6 ly,fun x Q0=>?_⟩,by omega⟩;simp only[nD,nj,MA] at Q0;omega
 have HF:=ae hf;have GI:sb<A.heap.size:=by omega
 have hw2:w.heap.size+2<=W3.heap.size:=by omega
 clear A6 Bk hA P hf F x0 QW x2 x3 x4;go_wp2_with fail;generalize (A.alloc (Q #[Y a n c] 25)).alloc (Q #[I J kk,U tt,Y ra rn rc] 37)=W6 at E1 ⊢;generalize A.heap.size=ab at E1 GI Fm ⊢;go_loopw [9] (fun i wr=>∃ (k q n c:Nat) (a:Option Addr) (f:Nat->aj),i=I J k/\k<=3/\q<=q4+3*k/\n<=400/\Hid (∀ i,i<n->FitI (f i))/\Hid (Dr2 [ab,R,w.heap.size,w.heap.size+1,sb] w R w.heap.size (w.heap.size+1) sb ab wr q m0 j r g b0 ZB b QZ n c a f)) (fun i _=>3 - (intOf i).toNat);case atStart=>exact⟨0,q4,n,c,a,f,rfl,by omega,by omega,hn,HF,E1⟩
 case round =>
  clear E1 HF hn;obtain⟨k,q5,n,c,a,f,rfl,hk,hq5,hn,HF,E2⟩:=hrel;obtain⟨v0,v1,v2⟩:=E2.acc;go_upto_region 9 with fail;go_cut [36] (fun s wx=>∃ b:Bool,s=.bool b/\(b=true->k<3)/\wr=wx);case first =>
   by_cases DE:k<3
   ·have Fk:(k:Int)<3:=by omega
    go_wp2;go_meet;exact⟨_,rfl,fun _=>DE,rfl⟩
   ·have Fk:¬ (k:Int)<3:=by omega
    go_wp2;go_meet;exact⟨QQ,rfl,(fun h=>by cases h),rfl⟩
  case rest =>
  obtain⟨GJ,rfl,fd,rfl⟩:=hcut;cases GJ with
  | true =>
   have DE:=fd rfl;obtain⟨x0,QW,x2,x3,x4⟩:=E2.d.cells;clear fd v0 v1 v2;go_wp2_with fail;have u:=ae (E2.below br.drew (by simp));refine wp_region_held_drew (S:=fun V=>V.cell? (T sb 0 Z)=N (Y b0 m0 j)/\V.cell? (T sb 1 Z)=N (Y b r g)) (by as_aux_lemma=>kernel_rfl) ⟨u.d.cells.1,u.d.cells.2.1⟩ (fun hS=>?_);have l:=ae hS;clear hS E2 x0 QW x2 x3 x4;generalize wr.drew=C at u l ⊢
   iterate 3
    refine aV 0 (v:=?_) rfl rfl (by as_aux_lemma=>kernel_rfl) (fun _ _ _ h=>h) rfl ?_ l ?_;rotate_left
    ·(intro wz L;obtain⟨s0,s1⟩:=L;go_simp)
     (try with_reducible rfl)
    (try simp only[Act.put,nzL])
   refine aD (i:=3) rfl (by as_aux_lemma=>kernel_rfl) (fun K B=>?_);go_simp;go_at_call 61;refine(fC R _ w.heap.size m0 j r g b0 ZB b QZ _ u.d.rd (by omega) Q9 u.d.qs.at.1).mono ?_;rintro e v4 ⟨t4,rfl,q6,hq6,hR,hO⟩;have ZA:=ae (u.only hO hR (by simp));clear hR hO u l;have l:=ae (show v4.cell? (T sb 0 Z)=N (Y b0 m0 j)/\v4.cell? (T sb 1 Z)=N (Y b r g) from⟨ZA.d.cells.1,ZA.d.cells.2.1⟩);refine B _ _ l ?_;clear B K
   (try simp only[Act.put,nzL])
   refine aD (i:=4) rfl (by as_aux_lemma=>kernel_rfl) (fun K B=>?_);go_simp;go_at_call 11;refine(qP w.heap.size m0 j r g b0 ZB b QZ _ t4 ZA.d.qs.at.1).mono ?_;rintro e v5 ⟨a5,n5,c5,f5,kk5,tt5,ra5,rn5,rc5,rfl,sm,Q2,ro,aq⟩;have hz4:=aq.size;have hab4:=ai ZA.ax;have hsb4:=ai ZA.d.sx;have hws4:=ZA.d.o.size;have hra4:=ai ZA.d.za;have E5:=ae (ZA.below aq (by simp))
   have QA:Hid (QAc w.heap.size [ab,R,w.heap.size,w.heap.size+1,sb] v5 a5 n5 c5 f5):=QAc.new sm (by omega) (fun x Q0=>by
    simp only[nD,nj,MA] at Q0
    omega)
   have GE:=ae ro;clear sm aq ro ZA l;have l:=ae (show v5.cell? (T sb 0 Z)=N (Y b0 m0 j)/\v5.cell? (T sb 1 Z)=N (Y b r g) from⟨E5.d.cells.1,E5.d.cells.2.1⟩);refine B _ _ l ?_;clear B K
   (try simp only[Act.put,nzL])
   iterate 3
    refine aV 5 (v:=?_) rfl rfl (by as_aux_lemma=>kernel_rfl) (fun _ _ _ h=>h) rfl ?_ l ?_;rotate_left
    ·(intro wz L;obtain⟨s0,s1⟩:=L;go_simp)
     (try with_reducible rfl)
    (try simp only[Act.put,nzL])
   obtain⟨z0,z1,z2⟩:=E5.acc;have E6:=ae (E5.put (by simp) (by omega) QA);refine aD (i:=8) rfl (by as_aux_lemma=>kernel_rfl) (fun K B=>?_);go_simp;have D:ab≠sb:=by omega
   refine B _ _ ⟨(cell_far _ _ _ _ D).trans l.1,(cell_far _ _ _ _ D).trans l.2⟩ ?_;clear B K l E5 QA z0 z1 z2
   (try simp only[Act.put,nzL])
   refine wpAnyH_done (by as_aux_lemma=>kernel_rfl) ?_ _;generalize v5.setCell (T ab 0 Z) (Y a5 n5 c5)=W7 at E6 ⊢;go_wp2;exact⟨⟨k+1,q6,n5,c5,a5,f5,by go_num,by omega,by omega,Q2,GE,E6⟩,by simp[intOf];omega⟩
  | false =>
   clear fd v0 v1 v2;go_wp2_with fail;have SQ:Hid (∀ V,Dr2 [ab,R,w.heap.size,w.heap.size+1,sb] w R w.heap.size (w.heap.size+1) sb ab V q5 m0 j r g b0 ZB b QZ n c a f->V.cell? (T sb 0 Z)=N (Y b0 m0 j)/\V.cell? (T sb 1 Z)=N (Y b r g)/\V.cell? (T ab 0 Z)=N (Y a n c)):=fun V h=>⟨h.d.cells.1,h.d.cells.2.1,h.acc.1⟩
   have u:=ae (E2.below br.drew (by simp));refine wp_region_held_drew (S:=fun V=>V.cell? (T sb 0 Z)=N (Y b0 m0 j)/\V.cell? (T sb 1 Z)=N (Y b r g)/\V.cell? (T ab 0 Z)=N (Y a n c)) (by as_aux_lemma=>kernel_rfl) (SQ _ u) (fun hS=>?_);have l:=ae hS;clear hS E2;generalize wr.drew=C at u l ⊢
   iterate 2
    refine aV 0 (v:=?_) rfl rfl (by as_aux_lemma=>kernel_rfl) (fun _ _ _ h=>h) rfl ?_ l ?_;rotate_left
    ·(intro wz L;obtain⟨s0,s1,s2⟩:=L;go_simp)
     (try with_reducible rfl)
    (try simp only[Act.put,nzL])
   have X:=u.d.zs;have ka:=u.d.za;have r0:C.cell? (T w.heap.size 0 Z)=N (Y Z 0 0):=by simp[World.cell?,X]
   have r1:C.cell? (T w.heap.size 1 Z)=N (Y Z 0 0):=by simp[World.cell?,X]
   have r2:C.cell? (T (w.heap.size+1) 0 Z)=N (Y Z 0 0):=by simp[World.cell?,ka]
   have y0:C.frozen? (T w.heap.size 0 Z)=QQ:=by simp[World.frozen?,X]
   have y1:C.frozen? (T w.heap.size 1 Z)=QQ:=by simp[World.frozen?,X]
   have y2:C.frozen? (T (w.heap.size+1) 0 Z)=QQ:=by simp[World.frozen?,ka]
   have l0:=ai X;have l1:=ai ka;have B3:=ae ((((eL w.heap.size C).setCell (p:=(T w.heap.size 0 Z)) ly (Y b0 m0 j)).setCell (p:=(T w.heap.size 1 Z)) ly (Y b r g)).setCell (p:=(T (w.heap.size+1) 0 Z)) (vF _) (Y a n c));have FR:Hid (Fr [ab,R,w.heap.size,w.heap.size+1,sb] C (((C.setCell (T w.heap.size 0 Z) (Y b0 m0 j)).setCell (T w.heap.size 1 Z) (Y b r g)).setCell (T (w.heap.size+1) 0 Z) (Y a n c))):=((Fr.set (by simp) _).trans (Fr.set (by simp) _)).trans (Fr.set (by simp) _);have GC:=ae (u.d.qs.fr FR).at;have Fd:=ae (u.qa.fr FR).at;have R9:=ae (u.d.rd.low B3 Q9);have O9:=ae (u.d.o.then B3);clear X ka B3 FR;refine aD (i:=2) rfl (by as_aux_lemma=>kernel_rfl) (fun K B=>?_);go_simp;clear l;have D:sb≠w.heap.size:=by omega
   have n9:ab≠w.heap.size:=by omega
   have l:=ae (show((C.setCell (T w.heap.size 0 Z) (Y b0 m0 j)).setCell (T w.heap.size 1 Z) (Y b r g)).cell? (T sb 0 Z)=N (Y b0 m0 j)/\((C.setCell (T w.heap.size 0 Z) (Y b0 m0 j)).setCell (T w.heap.size 1 Z) (Y b r g)).cell? (T sb 1 Z)=N (Y b r g)/\((C.setCell (T w.heap.size 0 Z) (Y b0 m0 j)).setCell (T w.heap.size 1 Z) (Y b r g)).cell? (T ab 0 Z)=N (Y a n c) from by
    obtain⟨h1,h2,h3⟩:=SQ.out _ u
    exact⟨(cell_far _ _ _ _ D.symm).trans ((cell_far _ _ _ _ D.symm).trans h1),(cell_far _ _ _ _ D.symm).trans ((cell_far _ _ _ _ D.symm).trans h2),(cell_far _ _ _ _ n9.symm).trans ((cell_far _ _ _ _ n9.symm).trans h3)⟩)
   refine B _ _ l ?_;clear B K
   (try simp only[Act.put,nzL])
   refine aD (i:=3) rfl (by as_aux_lemma=>kernel_rfl) (fun K B=>?_);go_simp;have DQ:ab≠w.heap.size+1:=by omega
   have bt:sb≠w.heap.size+1:=by omega
   refine B _ _ ⟨(cell_far _ _ _ _ bt.symm).trans l.1,(cell_far _ _ _ _ bt.symm).trans l.2.1,(cell_far _ _ _ _ DQ.symm).trans l.2.2⟩ ?_;clear B K
   (try simp only[Act.put,nzL])
   refine wpAnyH_done (by as_aux_lemma=>kernel_rfl) ?_ _;go_wp2;exact bp (v:=.tuple #[QV #[Y b0 m0 j,Y b r g],QV #[Y a n c]]) (by simp[results,Tryz.results48,go_sem,r0,r1,r2]) rfl ⟨_,_,_,_,_,_,_,_,_,_,_,_,rfl,GC,Fd,hn,HF,q5,by omega,R9,O9⟩
end Go.Proofs.YtamacmnikdejeaaGreatDoor.Vp
