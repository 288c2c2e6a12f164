import Derived.Test.YtamacmnikdejeaaGreatDoorQP
import Derived.Test.YtamacmnikdejeaaGreatDoorSW
set_option maxRecDepth 100000
set_option maxHeartbeats 8000000
open Go.Addr renaming mk->N
open Go.Value renaming slice->Y,string->U,int->J,bool->QC,agg->QG
open Option renaming none->Z,some->T
open Go.Obj renaming cells->Q
open Go.IntKind renaming i64->I
open Go renaming World->G,Value->QE
open Bool renaming false->QB,true->QD
open Go.Ending renaming returned->QF
namespace Go.Proofs.YtamacmnikdejeaaGreatDoor.Vp
open RowKit
def lkV (b:List Ent)(f:List Lk):List QE:=f.flatMap fun l=>dE (lkD b l)
theorem Dz (b:List Ent)(f:List Lk):bV (lkF b f) f.length=lkV b f:=by
 unfold bV lkV;rw[show(List.range f.length).map (lkF b f)=f.map (lkD b) from ?_,LK];refine LG fun i=>?_;rw[IH,IH];rcases JK i f.length with h | h
 ·rw[List.getElem?_range h,gq h]
  simp only[MZ];rw[kf (gq h)]
 ·rw[I6 h,I6 (by simpa using h)]
  rfl
theorem tX (b:List Ent)(f:List Lk){k:Nat}{l:Lk}(h:f[k]?=T l):lkV b (f.take (k+1))=lkV b (f.take k)++dE (lkD b l):=by rw[LF,h];simp[lkV]
theorem vK (w:G)(b f g i:QE)(t:TypeId):∀ j u,[b,f,g,i][j]?=T u->(w.alloc (Q #[b,f,g,i] t)).cell? (((N w.heap.size 0 Z):Addr).add j)=T u:=by
 intro j u h;rw[addr_add];match j,h with
 | 0,h=>simp at h;subst h;simp
 | 1,h=>simp at h;subst h;simp
 | 2,h=>simp at h;subst h;simp
 | 3,h=>simp at h;subst h;simp
 | k+4,h=>simp at h
theorem DBox.grown {w q:G}{b f size n:Nat}{m o g p i j v:QE}{e:TypeId}{r:List QE}(h:DBox w b m o g p i j)(s:w.ownsRow f e size v n r)(l:w.grownBy q v.ownBlock)(hb:b<f):DBox q b m o g p i j :=
 h.blk l.size (l.block b h.lt fun e=>by have:=(s.lt b e.symm).1;omega)
theorem rh {w p:G}{b size n g f s:Nat}{v j:QE}{e r:TypeId}{l i:List QE}(h:w.ownsRow b e size v n l)(t:w.ownsRow g r f j s i)(u:w.grownBy p j.ownBlock)(m:e≠r):p.ownsRow b e size v n l :=
 de h fun k o=>u.block k (h.lt k o).2 fun q=>(fh h k o).ne (Ne.symm m) (fh t k q.symm)
end Go.Proofs.YtamacmnikdejeaaGreatDoor.Vp
namespace Go.Proofs.YtamacmnikdejeaaGreatDoor.Vp
open RowKit Ca
theorem tY (w:G)(b f g l m i:QE)(t:TypeId):∀ j u,[b,f,g,l,m,i][j]?=T u->(w.alloc (Q #[b,f,g,l,m,i] t)).cell? (((N w.heap.size 0 Z):Addr).add j)=T u:=by
 intro j u h;rw[addr_add];match j,h with
 | 0,h=>simp at h;subst h;simp
 | 1,h=>simp at h;subst h;simp
 | 2,h=>simp at h;subst h;simp
 | 3,h=>simp at h;subst h;simp
 | 4,h=>simp at h;subst h;simp
 | 5,h=>simp at h;subst h;simp
 | k+6,h=>simp at h
section
variable {S:Spc}{a0 a1:Option Addr}{c0 c1:Nat}
end
structure ShAt (B:Nat)(w:G)(hb:Nat)(s0 s1 md or:QE)(L:List SM)(made:List Ent):Prop where
 lt:hb<w.heap.size
 c0:w.cell? (N hb 0 Z)=T s0
 c1:w.cell? (N hb 1 Z)=T s1
 c2:w.cell? (N hb 2 Z)=T md
 c3:w.cell? (N hb 3 Z)=T or
 rmd:w.ownsRow B 161 6 md L.length (L.flatMap smV)
 ror:w.ownsRow B 9 1 or made.length (bZ (made.map (·.name)))
 seen:∀ m∈L,m.done=QD->w.ownsRow B 164 3 m.sv m.seen.length (dW m.seen)
theorem ShAt.below {B C:Nat}{w n:G}{hb:Nat}{s0 s1 l j:QE}{L:List SM}{f:List Ent}(h:ShAt B w hb s0 s1 l j L f)(b:Below C w n)(g:w.heap.size<=C):ShAt B n hb s0 s1 l j L f:=by have i:hb<C:=lj h.lt g;exact⟨lj h.lt b.size,(b.cell (p:=(N hb 0 Z)) i).trans h.c0,(b.cell (p:=(N hb 1 Z)) i).trans h.c1,(b.cell (p:=(N hb 2 Z)) i).trans h.c2,(b.cell (p:=(N hb 3 Z)) i).trans h.c3,own_below h.rmd b g,own_below h.ror b g,fun m o q=>own_below (h.seen m o q) b g⟩
theorem Es {L:List SM}{b:List Ent}(h:fe L [] b){i:Nat}{x:Ent}(n:b[i]?=T x):∃ k m,fI L x.name=T k/\L[k]?=T m/\m.name=x.name/\m.done=QD/\m.code=(du x).code/\m.text=(du x).text/\m.seen=x.looks:=by obtain⟨m,g,f,r,p,o,q⟩:=h.got x (IE n);obtain⟨k,l,j⟩:=qp h.nod g f;exact⟨k,m,l,j,f,r,p,o,q⟩
theorem tZ {S:Spc}{made:List Ent}{x:Ent}(h1:cI S x=0)(h2:x.looks=[])(W:G)(b:Nat):DSub W b (bm S made x,Y Z 0 0,Y Z 0 0):=by
 refine⟨?_,?_⟩
 ·show W.ownsRow b 146 3 (Y Z 0 0) (cI S x) (ct (S.f1 x.tg).act (cI S x))
  rw[h1];exact BG _ _ _ _
 ·show W.ownsRow b 129 4 (Y Z 0 0) x.looks.length (bV (lkF made x.looks) x.looks.length)
  rw[h2];exact BG _ _ _ _
theorem Bq {S:Spc}{b:List Ent}(h:PG S [] b){i:Nat}{x:Ent}(r:b[i]?=T x){l:Lk}(q:l∈x.looks)(t:l.ask=QD){D:List ah}(s:D=(b.take i).map (bm S b)):iY (dF D) l.name i=((jm b l.name:Nat):Int):=by
 obtain⟨y,n,hn,p⟩:=h.asked r q t;have g:∀ (j:Nat) (z:Ent),j<i->b[j]?=T z->(dF D j).name=z.name:=fun j z m hz=>by unfold dF;rw[s,CL,IH,List.getElem?_take_of_lt m,hz];rfl
 unfold iY;refine fx p ?_ fun j m=>?_
 ·rw[g _ y p n,hn]
  simp
 ·have o:=(j2.1 n).1
  have hz:b[j]?=T b[j]:=gq (by omega);rw[g j _ (by omega) hz];have f:=ID.1 h.nod j _ (by omega) o m;rw[(j2.1 n).2,hn] at f;cases hb:(b[j].name.toList == l.name.toList) with
  | false=>rfl
  | true=>exact absurd (bytes_beq hb) f
theorem zn {w:G}{f g c:Nat}{b:List Lk}(h:w.ownsRow f 164 3 (Y (T (N g 0 Z)) b.length c) b.length (dW b)){k:Nat}{l:Lk}(i:b[k]?=T l)(j:Nat)(m:j<3){u:QE}(n:[Value.string l.name,QC l.ask,QC l.has][j]?=T u):w.cell? (N g (k*3+j) Z)=T u :=
 (bv h (j:=k*3+j) (u:=u) (by rw[dW,cK (fun l:Lk=>[Value.string l.name,QC l.ask,QC l.has]) 3 (fun _=>rfl) b k j m l i];exact n)).1
section
variable {S:Spc}{a0 a1:Option Addr}{c0 c1:Nat}
theorem xI (B:Nat)(w:G)(hb:Nat)(md or:QE)(L:List SM)(f:List Ent)
  (FD:ShAt B w hb (Y a0 S.n0 c0) (Y a1 S.n1 c1) md or L f) (hrel:fe L [] f) (Gz:PG S [] f) (GU:f.length<=40201)
  (Gq:SlSource w a0 S.n0 S.f0) (GS:SlTarget w a1 S.n1 S.f1) (Gt:SpcOk S) (FQ:∀ i,i<S.n1->bk (S.f1 i)) :
  Calls Tryz.prog 47 #[.pointer (T (N hb 0 Z))] w fun e w'=>∃ a c R,e=QF (QG #[Y a R.length c])/\DRow w' w.heap.size (Y a R.length c) R/\R.map (·.1)=aO S f/\Below w.heap.size w w':=by
 have Gr:=ae FD;have GT:=ae hrel;have GH:=ae Gz;have V0:=ae Gq;have V1:=ae GS;have E9:=ae Gt;have He:=ae FQ;have Ht:L.length<=40201:=by have:=hrel.len;simp only[GD,I9] at this;omega
 obtain⟨am,cm,rfl⟩:=ep FD.rmd;obtain⟨ao,co,rfl⟩:=ep FD.ror;obtain⟨QN,hN⟩:∃ QN,QN=L.length:=⟨_,rfl⟩
 obtain⟨n,hn⟩:∃ n,n=f.length:=⟨_,rfl⟩
 have ld:=ae hN;have HN:=ae hn;rw[<-hN,<-hn] at Gr;rw[<-hN] at Ht;rw[<-hn] at GU;clear FD hrel Gz Gq GS Gt FQ hN hn;obtain⟨il,GO,FO,FZ,F3⟩:=IL nI;obtain⟨F9,Gl,Fu,Fq,Fs⟩:=IL gA;have A0:=ae (((q9 w).alloc ly (Q #[Y Z 0 0] 25)).alloc (by simp) (Q #[Y Z 0 0] 25))
 have kR:Hid (((w.alloc (Q #[Y Z 0 0] 25)).alloc (Q #[Y Z 0 0] 25)).heap[w.heap.size]?=T (Q #[Y Z 0 0] 25 (0,0))) :=
  ((((a8 (w.heap.size+1) _).alloc (by simp) _).block w.heap.size (by omega)).trans (eT w _))
 have kA:Hid (((w.alloc (Q #[Y Z 0 0] 25)).alloc (Q #[Y Z 0 0] 25)).heap[w.heap.size+1]?=T (Q #[Y Z 0 0] 25 (0,0))):=by have h2:=eT (w.alloc (Q #[Y Z 0 0] 25)) (Q #[Y Z 0 0] 25);rw[show(w.alloc (Q #[Y Z 0 0] 25)).heap.size=w.heap.size+1 by simp] at h2;exact h2
 go_enter Tryz.func47,Tryz.ntmps47;go_wp2_with fail;generalize (w.alloc (Q #[Y Z 0 0] 25)).alloc (Q #[Y Z 0 0] 25)=W0 at A0 kR kA ⊢;go_loopw [4] (fun v wr=>∃ (i:Nat) (QP:Option Addr) (c5:Nat) (R:List DR),i<=n/\v=J I i/\R.length=i/\Hid (R.map (·.1)=(f.take i).map (bm S f))/\Hid (DRow wr (w.heap.size+2) (Y QP i c5) R)/\Hid (wr.heap[w.heap.size+1]?=T (Q #[Y QP i c5] 25 (0,0)))/\Hid (wr.heap[w.heap.size]?=T (Q #[Y Z 0 0] 25 (0,0)))/\Hid (Below w.heap.size w wr)) (fun v _=>n - (intOf v).toNat);case atStart=>exact⟨0,Z,0,[],by omega,rfl,rfl,rfl,gD _ _,kA,kR,A0⟩
 case round =>
  clear kA kR A0;obtain⟨i,QP,c5,R,hi,rfl,QH,Fo,D4,k4,ph,B4⟩:=hrel;have fd:=ae (Gr.below B4 ly);have hw4:w.heap.size+2<=wr.heap.size:=ag k4.out;have h3:=fd.c3;have Gw:=fd.lt;by_cases Hm:i<n
  ·obtain⟨x,hx⟩:∃ x,f[i]?=T x:=⟨_,gq (by rw[<-HN.out];exact Hm)⟩
   obtain⟨j,m,hf,hm,e1,e2,e3,e4,e5⟩:=Es GT hx;have Fi:=fd.ror;have bt:=fd.rmd;rw[<-HN.out] at Fi;rw[<-ld.out] at bt;obtain⟨go,co',e⟩:=dr Fi (by omega);simp only[IB,MV] at e;obtain⟨rfl,rfl⟩:=e;have hjN:j<QN:=by rw[ld.out];exact(j2.1 hm).1
   obtain⟨QR,cm',e⟩:=dr bt (by omega);simp only[IB,MV] at e;obtain⟨rfl,rfl⟩:=e;have oc:wr.cell? (N go i Z)=T (U x.name):=(bv Fi (by rw[bZ,IH,IH,hx];rfl)).1;have Hb:=(cX Fi).2;have ur:=(cX bt).2;have h2:=fd.c2;have Fe:=fd.seen m (IE hm) e2;obtain⟨sa,X,Fx⟩:=ep Fe;obtain⟨H,FM⟩:∃ H,H=(du x).code:=⟨_,rfl⟩
   obtain⟨t,qr⟩:∃ t,t=(du x).text:=⟨_,rfl⟩
   obtain⟨E,Fw⟩:∃ E,E=x.looks.length:=⟨_,rfl⟩
   rw[e5] at Fx Fe;rw[Fx,<-Fw] at Fe;have q0:wr.cell? (N QR (j*6) Z)=T (U x.name):=by have:=bR (by rw[<-ld.out];exact bt) hm 0 (by omega) rfl;rw[e1] at this;exact this
   have q1:wr.cell? (N QR (j*6+1) Z)=T (J I H):=by have:=bR (by rw[<-ld.out];exact bt) hm 1 (by omega) rfl;rw[e3,<-FM] at this;exact this
   have q2:wr.cell? (N QR (j*6+2) Z)=T (U t):=by have:=bR (by rw[<-ld.out];exact bt) hm 2 (by omega) rfl;rw[e4,<-qr] at this;exact this
   have q3:wr.cell? (N QR (j*6+3) Z)=T (Y Z 0 0):=bR (by rw[<-ld.out];exact bt) hm 3 (by omega) rfl;have q4:wr.cell? (N QR (j*6+4) Z)=T (Y sa E X):=by have:=bR (by rw[<-ld.out];exact bt) hm 4 (by omega) rfl;rw[Fx,<-Fw] at this;exact this
   have q5:wr.cell? (N QR (j*6+5) Z)=T (QC QD):=by have:=bR (by rw[<-ld.out];exact bt) hm 5 (by omega) rfl;rw[e2] at this;exact this
   have D:Hid (∀ V,Below wr.heap.size wr V->V.cell? (N hb 2 Z)=T (Y (T (N QR 0 Z)) QN cm)/\V.cell? (N hb 3 Z)=T (Y (T (N go 0 Z)) n co)/\V.cell? (N go i Z)=T (U x.name)/\V.cell? (N QR (j*6) Z)=T (U x.name)/\V.cell? (N QR (j*6+1) Z)=T (J I H)/\V.cell? (N QR (j*6+2) Z)=T (U t)/\V.cell? (N QR (j*6+3) Z)=T (Y Z 0 0)/\V.cell? (N QR (j*6+4) Z)=T (Y sa E X)/\V.cell? (N QR (j*6+5) Z)=T (QC QD)):=fun V y=>⟨(y.cell (p:=(N hb 2 Z)) Gw).trans h2,(y.cell (p:=(N hb 3 Z)) Gw).trans h3,(y.cell (p:=(N go i Z)) Hb).trans oc,(y.cell (p:=(N QR _ Z)) ur).trans q0,(y.cell (p:=(N QR _ Z)) ur).trans q1,(y.cell (p:=(N QR _ Z)) ur).trans q2,(y.cell (p:=(N QR _ Z)) ur).trans q3,(y.cell (p:=(N QR _ Z)) ur).trans q4,(y.cell (p:=(N QR _ Z)) ur).trans q5⟩
   have CT:Hid (∀ V,Below wr.heap.size wr V->Calls Tryz.prog 92 #[.pointer (T (N hb 0 Z)),U x.name] V fun e w'=>e=QF (J I (j:Int))/\w'=V):=fun V y=>by
    have h:=fd.below y ly;refine(tO V x.name B h.c2 h.rmd (by rw[<-ld.out];omega)).mono fun e w' ⟨he,hw⟩=>⟨?_,hw⟩
    rw[he,hf];rfl
   have HX:=ae hx;have Ha:=ae FM;have Gx:=ae qr;have DS:=ae Fw;have FY:=ae Fe;have hj0:(0:Int)<=(j:Int):=by omega
   have hjI:(j:Int)<QN:=by omega
   have hi0:(0:Int)<=(i:Int):=by omega
   have hiI:(i:Int)<n:=by omega
   clear Fi bt Fe Fx hx hf hm e1 e2 e3 e4 e5 FM qr Fw;go_upto_region 5 with fail;go_cut [5] (fun s wx=>s=.pointer (T (N wr.heap.size 0 Z))/\wx=(wr.alloc (Q #[U x.name,J I H,U t,Y Z 0 0,Y sa E X,QC QD] 161)).drew);case first =>
    clear h2 h3 oc q0 q1 q2 q3 q4 q5
    go_region_held3 (fun V=>V.cell? (N hb 2 Z)=T (Y (T (N QR 0 Z)) QN cm)/\V.cell? (N hb 3 Z)=T (Y (T (N go 0 Z)) n co)/\V.cell? (N go i Z)=T (U x.name)/\V.cell? (N QR (j*6) Z)=T (U x.name)/\V.cell? (N QR (j*6+1) Z)=T (J I H)/\V.cell? (N QR (j*6+2) Z)=T (U t)/\V.cell? (N QR (j*6+3) Z)=T (Y Z 0 0)/\V.cell? (N QR (j*6+4) Z)=T (Y sa E X)/\V.cell? (N QR (j*6+5) Z)=T (QC QD)) (first | exact D _ br | exact D _ br.drew | exact D _ (br.drew.alloc ly _) | exact D _ (br.alloc ly _).drew | exact D _ ((((((((q9 wr).drew.alloc ly _).setCell ly _).setCell ly _).setCell ly _).setCell ly _).setCell ly _).setCell ly _)) (first
     | (go_at_call 92;refine(CT _ (by first | exact br.drew | exact a8 _ _ | exact br.drew.alloc ly _)).mono ?_;rintro e w5 ⟨rfl,rfl⟩))
    all_goals
     go_wp2_with fail;go_meet;exact⟨rfl,rfl⟩
   case rest =>
   obtain⟨rfl,rfl⟩:=hcut;have B5:=ae ((q9 wr).alloc ly (Q #[U x.name,J I H,U t,Y Z 0 0,Y sa E X,QC QD] 161)).drew;have m5:Hid ((wr.alloc (Q #[U x.name,J I H,U t,Y Z 0 0,Y sa E X,QC QD] 161)).drew.heap[wr.heap.size]?=T (Q #[U x.name,J I H,U t,Y Z 0 0,Y sa E X,QC QD] 161 (0,0))):=eT wr _;have FA:(wr.alloc (Q #[U x.name,J I H,U t,Y Z 0 0,Y sa E X,QC QD] 161)).drew.heap.size=wr.heap.size+1:=by simp[World.drew]
   clear h2 h3 oc q0 q1 q2 q3 q4 q5 D CT;generalize (wr.alloc (Q #[U x.name,J I H,U t,Y Z 0 0,Y sa E X,QC QD] 161)).drew=W5 at B5 m5 FA ⊢;have p0:W5.cell? (N wr.heap.size 0 Z)=T (U x.name):=by simp[World.cell?,m5.out]
   have A6:=ae ((q9 W5).alloc ly (Q #[U x.name,J I 0,J I 0,U ⟨#[]⟩,Y Z 0 0,Y Z 0 0] 46));have B6:=ae (B5.trans (A6.mono B5.size));have X6:Hid (DBox (W5.alloc (Q #[U x.name,J I 0,J I 0,U ⟨#[]⟩,Y Z 0 0,Y Z 0 0] 46)) (wr.heap.size+1) (U x.name) (J I 0) (J I 0) (U ⟨#[]⟩) (Y Z 0 0) (Y Z 0 0)):=by have h:=nJ W5 (U x.name) (J I 0) (J I 0) (U ⟨#[]⟩) (Y Z 0 0) (Y Z 0 0) 46;rw[FA] at h;exact h
   have m6:Hid ((W5.alloc (Q #[U x.name,J I 0,J I 0,U ⟨#[]⟩,Y Z 0 0,Y Z 0 0] 46)).heap[wr.heap.size]?=T (Q #[U x.name,J I H,U t,Y Z 0 0,Y sa E X,QC QD] 161 (0,0))):=(A6.block _ (by omega)).trans m5;have GF:(W5.alloc (Q #[U x.name,J I 0,J I 0,U ⟨#[]⟩,Y Z 0 0,Y Z 0 0] 46)).heap.size=wr.heap.size+2:=by simp[FA]
   go_upto_region 7 with fail;generalize W5.alloc (Q #[U x.name,J I 0,J I 0,U ⟨#[]⟩,Y Z 0 0,Y Z 0 0] 46)=W6 at A6 B6 X6 m6 GF ⊢;clear p0 B5 m5 A6 FA;have DQ:=ae (fd.below B6 ly);have Gm:=ae (B4.trans (B6.mono (by omega)));have D:Hid (∀ V,Below W6.heap.size W6 V->V.cell? (N hb 0 Z)=T (Y a0 S.n0 c0)/\V.cell? (N hb 1 Z)=T (Y a1 S.n1 c1)/\V.cell? (N wr.heap.size 0 Z)=T (U x.name)):=fun V y=>⟨(y.cell (p:=(N hb 0 Z)) DQ.lt).trans DQ.c0,(y.cell (p:=(N hb 1 Z)) DQ.lt).trans DQ.c1,(y.cell (p:=(N wr.heap.size 0 Z)) (by show wr.heap.size<_;omega)).trans (by simp[World.cell?,m6.out])⟩
   obtain⟨QL,hT⟩:∃ QL,QL=da (atI (nm1 S.f1) S.n1 x.name):=⟨_,rfl⟩
   have CT:Hid (∀ V,Below W6.heap.size W6 V->Calls Tryz.prog 74 #[QG #[Y a0 S.n0 c0,Y a1 S.n1 c1],U x.name] V fun e w'=>e=QF (J I QL)/\Below V.heap.size V w'):=fun V y=>by rw[hT];exact eu a0 S.n0 c0 a1 S.n1 c1 S.f1 x.name V (by have:=E9.small;omega) (V1.below (Gm.trans (y.mono Gm.size)) ly)
   have HT:=ae hT;clear hT
   go_region_held3 (fun V=>V.cell? (N hb 0 Z)=T (Y a0 S.n0 c0)/\V.cell? (N hb 1 Z)=T (Y a1 S.n1 c1)/\V.cell? (N wr.heap.size 0 Z)=T (U x.name)) (first | exact D _ br | exact D _ br.drew | exact D _ D7) (first
    | (go_at_call 74;refine(CT _ (by first | exact br.drew | exact a8 _ _)).mono ?_;rintro e QK ⟨rfl,Bk⟩;have D7:Hid (Below W6.heap.size W6 QK):=⟨Bk.os,Bk.tape,Bk.output,Bk.size,Bk.block⟩;clear Bk))
   have B7:=ae (B6.trans (D7.mono B6.size));have X7:=ae (X6.below D7 X6.lt);have m7:=ae ((D7.block _ (ag m6)).trans m6);have Gu:wr.heap.size+2<=QK.heap.size:=by have:=D7.size;omega
   have k7:=ae ((B7.block _ (ag k4)).trans k4);have Fg:=ae ((B7.block _ (ag ph)).trans ph);have mv:=ae (fd.below B7 ly);have Fj:=ae (B4.trans (B7.mono (by omega)));have FU:=IE HX.out;have GQ:=ae (GH.ents x FU);clear D7 D CT X6 m6 DQ Gm B6 GF FU;rcases GQ.kind with ⟨hk,n6,hlk,si,GA,FF⟩ | ⟨hk,n6,FF,hlk,FX,Fh⟩ | ⟨hk,FX,Fh⟩
   ·have HK:=ae hk
    have F0:=ae n6;have Hg:=nC E9.out GA;have FJ:Hid (t=x.text):=by show t=x.text;rw[Gx.out];unfold du;rw[cM (by omega)]
    have hsi0:(0:Int)<=(si:Int):=by omega
    clear hk n6 FF;have D:Hid (∀ V,Below QK.heap.size QK V->V.cell? (N hb 0 Z)=T (Y a0 S.n0 c0)/\V.cell? (N hb 1 Z)=T (Y a1 S.n1 c1)/\V.cell? (N wr.heap.size 0 Z)=T (U x.name)):=fun V y=>⟨(y.cell (p:=(N hb 0 Z)) mv.lt).trans mv.c0,(y.cell (p:=(N hb 1 Z)) mv.lt).trans mv.c1,(y.cell (p:=(N wr.heap.size 0 Z)) (by show wr.heap.size<_;omega)).trans (by simp[World.cell?,m7.out])⟩
    have CT:Hid (∀ V,Below QK.heap.size QK V->Calls Tryz.prog 73 #[QG #[Y a0 S.n0 c0,Y a1 S.n1 c1],U x.name] V fun e w'=>e=QF (J I (si:Int))/\Below V.heap.size V w'):=fun V y=>by have h:=dU a0 S.n0 c0 a1 S.n1 c1 S.f0 x.name V (by have:=E9.small;omega) (V0.below (Fj.trans (y.mono Fj.size)) ly);rw[GA] at h;exact h
    have Fa:QL=-1:=by rw[HT.out,Hg];rfl
    subst Fa;go_wp2_with fail
    go_region_held3 (fun V=>V.cell? (N hb 0 Z)=T (Y a0 S.n0 c0)/\V.cell? (N hb 1 Z)=T (Y a1 S.n1 c1)/\V.cell? (N wr.heap.size 0 Z)=T (U x.name)) (first | exact D _ br | exact D _ br.drew | exact D _ D8) (first
     | (go_at_call 73;refine(CT _ (by first | exact br.drew | exact a8 _ _)).mono ?_;rintro e w8 ⟨rfl,QM⟩;have D8:Hid (Below QK.heap.size QK w8):=⟨QM.os,QM.tape,QM.output,QM.size,QM.block⟩;clear QM))
    have X8:=ae (X7.below D8 X7.lt);have k8:=ae ((D8.block _ (ag k7)).trans k7);have Fb:=ae ((D8.block _ (ag Fg)).trans Fg);have B8:=ae (B7.trans (D8.mono B7.size));obtain⟨d1,Fl⟩:=X8.c1;obtain⟨d3,FK⟩:=X8.c3;have m8:=(D8.block _ (ag m7)).trans m7;have q2:w8.cell? (N wr.heap.size 2 Z)=T (U t):=by simp[World.cell?,m8]
    have P:Hid (DBox ((w8.setCell (N (wr.heap.size+1) 1 Z) (J I 1)).setCell (N (wr.heap.size+1) 3 Z) (U t)) (wr.heap.size+1) (U x.name) (J I x.kind) (J I x.code) (U x.text) (Y Z 0 0) (Y Z 0 0)):=by show DBox _ _ _ _ _ _ _ _;rw[HK.out,F0.out,<-FJ.out];exact(X8.set1 (J I 1)).set3 (U t)
    have ST:=ae (tZ (S:=S) (made:=f) (x:=x) (by unfold cI;rw[cM (by rw[HK.out];decide)]) hlk ((w8.setCell (N (wr.heap.size+1) 1 Z) (J I 1)).setCell (N (wr.heap.size+1) 3 Z) (U t)) wr.heap.size);have kT:Hid (((w8.setCell (N (wr.heap.size+1) 1 Z) (J I 1)).setCell (N (wr.heap.size+1) 3 Z) (U t)).heap[w.heap.size+1]?=_):=(qh _ _ _ _ (show w.heap.size+1≠wr.heap.size+1 by omega)).trans ((qh _ _ _ _ (show w.heap.size+1≠wr.heap.size+1 by omega)).trans k8.out);have ex:Hid (((w8.setCell (N (wr.heap.size+1) 1 Z) (J I 1)).setCell (N (wr.heap.size+1) 3 Z) (U t)).heap[w.heap.size]?=_):=(qh _ _ _ _ (show w.heap.size≠wr.heap.size+1 by omega)).trans ((qh _ _ _ _ (show w.heap.size≠wr.heap.size+1 by omega)).trans Fb.out);have W:=ae ((B8.setCell (p:=(N (wr.heap.size+1) 1 Z)) (CV _) (J I 1)).setCell (p:=(N (wr.heap.size+1) 3 Z)) (CV _) (U t));clear m8;go_upto_region 24 with fail;generalize ((w8.setCell (N (wr.heap.size+1) 1 Z) (J I 1)).setCell (N (wr.heap.size+1) 3 Z) (U t))=C at P ST kT ex W ⊢;clear d1 Fl d3 FK q2 X8 k8 Fb B8 D8 D CT;obtain⟨t0,_⟩:=P.c0;obtain⟨t1,_⟩:=P.c1;obtain⟨t2,_⟩:=P.c2;obtain⟨t3,_⟩:=P.c3;obtain⟨t4,_⟩:=P.c4;obtain⟨t5,_⟩:=P.c5;have kc:C.cell? (N (w.heap.size+1) 0 Z)=T (Y QP i c5):=by simp[World.cell?,kT.out]
    have A:=ae ((q9 C).alloc ly (Q #[U x.name,J I x.kind,J I x.code,U x.text,Y Z 0 0,Y Z 0 0] 46));have DA:=ae (D4.below (W.trans (A.mono W.size)) ly);have SA:=ae (ST.below A ly);have kA:=ae ((A.block _ (ag kT)).trans kT);have n8:=ae ((A.block _ (ag ex)).trans ex);have BA:=ae (B4.trans ((W.trans (A.mono W.size)).mono (by omega)));have OW:Hid (World.ownsRow (C.alloc (Q #[U x.name,J I x.kind,J I x.code,U x.text,Y Z 0 0,Y Z 0 0] 46)) (w.heap.size+2) 46 6 (Y QP i c5) i (R.flatMap ddV)):=by have h:=DA.own;rw[QH] at h;exact h
    have aq:Hid (∀ j,(Value.slice QP i c5).ownBlock=T j->w.heap.size+2<=j):=fun j e=>(OW.lt j e).1;have Fz:(C.alloc (Q #[U x.name,J I x.kind,J I x.code,U x.text,Y Z 0 0,Y Z 0 0] 46)).heap.size=C.heap.size+1:=by simp
    have GC:=W.size;go_wp2_with (at_builtin;refine CW _ rfl (.tmp 121) (.tmp 123) 23 rfl (w.heap.size+2) 46 F9 (QG #[U ⟨#[]⟩,J I 0,J I 0,U ⟨#[]⟩,Y Z 0 0,Y Z 0 0]) 6 96 Tryz.underlying23 Gl Fu Fq Fs rfl (by decide) (Y QP i c5) i (R.flatMap ddV) (by simp[Act.eval]) OW.out (N C.heap.size 0 Z) 1 1 [U x.name,J I x.kind,J I x.code,U x.text,Y Z 0 0,Y Z 0 0] (by simp[Act.eval]) rfl (tY C _ _ _ _ _ _ _) (by simp[Value.oneCell']) (by unfold maxLen;omega) (by omega) (by omega) ?_;intro v' w9 o g _;obtain⟨O,M,rfl⟩:=ep o;have O9:=ae o;have G9:=ae g;have k9:=ae ((g.block _ (ag kA) (fun e=>by have:=aq.out _ e.symm;omega)).trans kA);have g9:w9.cell? (N (w.heap.size+1) 0 Z)=T (Y QP i c5):=(by simp[World.cell?,k9.out]);have f9:w9.frozen? (N (w.heap.size+1) 0 Z)=QB:=(by simp[World.frozen?,k9.out]);have l9:=ag k9.out;clear o g);have D9:Hid (DRow w9 (w.heap.size+2) (Y O (i+1) M) (R++[(bm S f x,Y Z 0 0,Y Z 0 0)])):=DRow.more D4 DA (by omega) SA (by rw[QH];exact O9) G9;have Fc:=ae ((G9.block _ (ag n8) (fun e=>by have:=aq.out _ e.symm;omega)).trans n8);have B9:=ae (bg BA G9 (by omega) (fun j e=>by have:=aq.out j e;omega));have Fk:=ae (D9.set (p:=(N (w.heap.size+1) 0 Z)) (e:=25) (.inl (eL _)) (Y O (i+1) M));have Fn:Hid ((w9.setCell (N (w.heap.size+1) 0 Z) (Y O (i+1) M)).heap[w.heap.size+1]?=T (Q #[Y O (i+1) M] 25 (0,0))):=aA k9 _;have ro:Hid ((w9.setCell (N (w.heap.size+1) 0 Z) (Y O (i+1) M)).heap[w.heap.size]?=T (Q #[Y Z 0 0] 25 (0,0))):=(qh _ _ _ _ (show w.heap.size≠w.heap.size+1 by omega)).trans Fc.out;have Fm:=ae (B9.setCell (p:=(N (w.heap.size+1) 0 Z)) (CV _) (Y O (i+1) M));refine⟨⟨i+1,O,M,_,by omega,by go_num,by rw[eI,QH];rfl,?_,Fk,Fn,ro,Fm⟩,by simp[intOf];omega⟩;show(R++[((bm S f x,Y Z 0 0,Y Z 0 0):DR)]).map (·.1)=_;rw[HJ,Fo.out,LF,HX.out];simp
   ·have HK:=ae hk
    have F0:=ae n6;have Hn:=ae FF;clear hk n6 FF;have D:Hid (∀ V,Below QK.heap.size QK V->V.cell? (N hb 0 Z)=T (Y a0 S.n0 c0)/\V.cell? (N hb 1 Z)=T (Y a1 S.n1 c1)/\V.cell? (N wr.heap.size 0 Z)=T (U x.name)):=fun V y=>⟨(y.cell (p:=(N hb 0 Z)) mv.lt).trans mv.c0,(y.cell (p:=(N hb 1 Z)) mv.lt).trans mv.c1,(y.cell (p:=(N wr.heap.size 0 Z)) (by show wr.heap.size<_;omega)).trans (by simp[World.cell?,m7.out])⟩
    have CT:Hid (∀ V,Below QK.heap.size QK V->Calls Tryz.prog 73 #[QG #[Y a0 S.n0 c0,Y a1 S.n1 c1],U x.name] V fun e w'=>e=QF (J I (-1))/\Below V.heap.size V w'):=fun V y=>by have h:=dU a0 S.n0 c0 a1 S.n1 c1 S.f0 x.name V (by have:=E9.small;omega) (V0.below (Fj.trans (y.mono Fj.size)) ly);rw[FX] at h;exact h
    have Fa:QL=-1:=by rw[HT.out,Fh];rfl
    subst Fa;go_wp2_with fail
    go_region_held3 (fun V=>V.cell? (N hb 0 Z)=T (Y a0 S.n0 c0)/\V.cell? (N hb 1 Z)=T (Y a1 S.n1 c1)/\V.cell? (N wr.heap.size 0 Z)=T (U x.name)) (first | exact D _ br | exact D _ br.drew | exact D _ D8) (first
     | (go_at_call 73;refine(CT _ (by first | exact br.drew | exact a8 _ _)).mono ?_;rintro e w8 ⟨rfl,QM⟩;have D8:Hid (Below QK.heap.size QK w8):=⟨QM.os,QM.tape,QM.output,QM.size,QM.block⟩;clear QM))
    have X8:=ae (X7.below D8 X7.lt);have k8:=ae ((D8.block _ (ag k7)).trans k7);have Fb:=ae ((D8.block _ (ag Fg)).trans Fg);have B8:=ae (B7.trans (D8.mono B7.size));obtain⟨d1,Fl⟩:=X8.c1;have P:Hid (DBox (w8.setCell (N (wr.heap.size+1) 1 Z) (J I 2)) (wr.heap.size+1) (U x.name) (J I x.kind) (J I x.code) (U x.text) (Y Z 0 0) (Y Z 0 0)):=by show DBox _ _ _ _ _ _ _ _;rw[HK.out,F0.out,Hn.out];exact X8.set1 (J I 2)
    have ST:=ae (tZ (S:=S) (made:=f) (x:=x) (by unfold cI;rw[cM (by rw[HK.out];decide)]) hlk (w8.setCell (N (wr.heap.size+1) 1 Z) (J I 2)) wr.heap.size);have kT:Hid ((w8.setCell (N (wr.heap.size+1) 1 Z) (J I 2)).heap[w.heap.size+1]?=_):=(qh _ _ _ _ (by show w.heap.size+1≠wr.heap.size+1;omega)).trans k8;have ex:Hid ((w8.setCell (N (wr.heap.size+1) 1 Z) (J I 2)).heap[w.heap.size]?=_):=(qh _ _ _ _ (by show w.heap.size≠wr.heap.size+1;omega)).trans Fb;have W:=ae (B8.setCell (p:=(N (wr.heap.size+1) 1 Z)) (CV _) (J I 2));go_upto_region 24 with fail;generalize w8.setCell (N (wr.heap.size+1) 1 Z) (J I 2)=C at P ST kT ex W ⊢;clear d1 Fl X8 k8 Fb B8 D8 D CT;obtain⟨t0,_⟩:=P.c0;obtain⟨t1,_⟩:=P.c1;obtain⟨t2,_⟩:=P.c2;obtain⟨t3,_⟩:=P.c3;obtain⟨t4,_⟩:=P.c4;obtain⟨t5,_⟩:=P.c5;have kc:C.cell? (N (w.heap.size+1) 0 Z)=T (Y QP i c5):=by simp[World.cell?,kT.out]
    have A:=ae ((q9 C).alloc ly (Q #[U x.name,J I x.kind,J I x.code,U x.text,Y Z 0 0,Y Z 0 0] 46));have DA:=ae (D4.below (W.trans (A.mono W.size)) ly);have SA:=ae (ST.below A ly);have kA:=ae ((A.block _ (ag kT)).trans kT);have n8:=ae ((A.block _ (ag ex)).trans ex);have BA:=ae (B4.trans ((W.trans (A.mono W.size)).mono (by omega)));have OW:Hid (World.ownsRow (C.alloc (Q #[U x.name,J I x.kind,J I x.code,U x.text,Y Z 0 0,Y Z 0 0] 46)) (w.heap.size+2) 46 6 (Y QP i c5) i (R.flatMap ddV)):=by have h:=DA.own;rw[QH] at h;exact h
    have aq:Hid (∀ j,(Value.slice QP i c5).ownBlock=T j->w.heap.size+2<=j):=fun j e=>(OW.lt j e).1;have Fz:(C.alloc (Q #[U x.name,J I x.kind,J I x.code,U x.text,Y Z 0 0,Y Z 0 0] 46)).heap.size=C.heap.size+1:=by simp
    have GC:=W.size;go_wp2_with (at_builtin;refine CW _ rfl (.tmp 121) (.tmp 123) 23 rfl (w.heap.size+2) 46 F9 (QG #[U ⟨#[]⟩,J I 0,J I 0,U ⟨#[]⟩,Y Z 0 0,Y Z 0 0]) 6 96 Tryz.underlying23 Gl Fu Fq Fs rfl (by decide) (Y QP i c5) i (R.flatMap ddV) (by simp[Act.eval]) OW.out (N C.heap.size 0 Z) 1 1 [U x.name,J I x.kind,J I x.code,U x.text,Y Z 0 0,Y Z 0 0] (by simp[Act.eval]) rfl (tY C _ _ _ _ _ _ _) (by simp[Value.oneCell']) (by unfold maxLen;omega) (by omega) (by omega) ?_;intro v' w9 o g _;obtain⟨O,M,rfl⟩:=ep o;have O9:=ae o;have G9:=ae g;have k9:=ae ((g.block _ (ag kA) (fun e=>by have:=aq.out _ e.symm;omega)).trans kA);have g9:w9.cell? (N (w.heap.size+1) 0 Z)=T (Y QP i c5):=(by simp[World.cell?,k9.out]);have f9:w9.frozen? (N (w.heap.size+1) 0 Z)=QB:=(by simp[World.frozen?,k9.out]);have l9:=ag k9.out;clear o g);have D9:Hid (DRow w9 (w.heap.size+2) (Y O (i+1) M) (R++[(bm S f x,Y Z 0 0,Y Z 0 0)])):=DRow.more D4 DA (by omega) SA (by rw[QH];exact O9) G9;have Fc:=ae ((G9.block _ (ag n8) (fun e=>by have:=aq.out _ e.symm;omega)).trans n8);have B9:=ae (bg BA G9 (by omega) (fun j e=>by have:=aq.out j e;omega));have Fk:=ae (D9.set (p:=(N (w.heap.size+1) 0 Z)) (e:=25) (.inl (eL _)) (Y O (i+1) M));have Fn:Hid ((w9.setCell (N (w.heap.size+1) 0 Z) (Y O (i+1) M)).heap[w.heap.size+1]?=T (Q #[Y O (i+1) M] 25 (0,0))):=aA k9 _;have ro:Hid ((w9.setCell (N (w.heap.size+1) 0 Z) (Y O (i+1) M)).heap[w.heap.size]?=T (Q #[Y Z 0 0] 25 (0,0))):=(qh _ _ _ _ (show w.heap.size≠w.heap.size+1 by omega)).trans Fc.out;have Fm:=ae (B9.setCell (p:=(N (w.heap.size+1) 0 Z)) (CV _) (Y O (i+1) M));refine⟨⟨i+1,O,M,_,by omega,by go_num,by rw[eI,QH];rfl,?_,Fk,Fn,ro,Fm⟩,by simp[intOf];omega⟩;show(R++[((bm S f x,Y Z 0 0,Y Z 0 0):DR)]).map (·.1)=_;rw[HJ,Fo.out,LF,HX.out];simp
   ·have HK:=ae hk
    have Ga:du x=⟨x.code,x.text,[]⟩:=by unfold du;rw[cM (by omega)]
    have FJ:Hid (t=x.text/\H=x.code):=⟨by rw[Gx.out,Ga],by rw[Ha.out,Ga]⟩
    have hns2:E<=200:=by rw[DS.out];exact GQ.looks
    have F7:=(bJ Fh).1;have Fa:QL=(x.tg:Int):=by rw[HT.out,Fh];rfl
    have GM:cI S x=(S.f1 x.tg).actN:=by unfold cI;rw[gM hk]
    obtain⟨K,Fy⟩:∃ K,K=(S.f1 x.tg).actN:=⟨_,rfl⟩
    have Hk:Hid (cI S x=K):=GM.trans Fy.symm;have hn4m:K<=1048576:=by rw[Fy];exact He x.tg F7
    have hn41:1<=K:=by obtain⟨_,hv,_⟩:=bN (E9.act x.tg F7);omega
    obtain⟨tb,tf,Hc,qr⟩:=V1.resolve_left (by omega);subst Fa Hc;obtain⟨-,ia,ic,DE,GN⟩:=qr.2 x.tg F7;have FP:=qr.1;obtain⟨ib,io,rfl,Gg⟩:=GN.resolve_left (by omega);rw[<-Fy] at DE Gg;have Hd:=ae Gg;have Gn:=ae DE;clear hk Ga GM Fy FX Fh qr GN Gg DE;have q1:QK.cell? (N wr.heap.size 1 Z)=T (J I H):=by simp[World.cell?,m7.out]
    have q2:QK.cell? (N wr.heap.size 2 Z)=T (U t):=by simp[World.cell?,m7.out]
    obtain⟨d1,Fl⟩:=X7.c1;obtain⟨d2,Hp⟩:=X7.c2;obtain⟨d3,FK⟩:=X7.c3;have G8:=X7.lt;have htg0:(0:Int)<=(x.tg:Int):=by omega
    have X9:=ae (((X7.set1 (J I 3)).set2 (J I H)).set3 (U t));have m9:Hid ((((QK.setCell (N (wr.heap.size+1) 1 Z) (J I 3)).setCell (N (wr.heap.size+1) 2 Z) (J I H)).setCell (N (wr.heap.size+1) 3 Z) (U t)).heap[wr.heap.size]?=T (Q #[U x.name,J I H,U t,Y Z 0 0,Y sa E X,QC QD] 161 (0,0))):=(qh _ _ _ _ (show wr.heap.size≠wr.heap.size+1 by omega)).trans ((qh _ _ _ _ (show wr.heap.size≠wr.heap.size+1 by omega)).trans ((qh _ _ _ _ (show wr.heap.size≠wr.heap.size+1 by omega)).trans m7.out));have B9:=ae (((B7.setCell (p:=(N (wr.heap.size+1) 1 Z)) (CV _) (J I 3)).setCell (p:=(N (wr.heap.size+1) 2 Z)) (CV _) (J I H)).setCell (p:=(N (wr.heap.size+1) 3 Z)) (CV _) (U t));have Gs:wr.heap.size+2<=(((QK.setCell (N (wr.heap.size+1) 1 Z) (J I 3)).setCell (N (wr.heap.size+1) 2 Z) (J I H)).setCell (N (wr.heap.size+1) 3 Z) (U t)).heap.size:=by simpa using Gu
    go_upto_region 12 with fail;generalize (((QK.setCell (N (wr.heap.size+1) 1 Z) (J I 3)).setCell (N (wr.heap.size+1) 2 Z) (J I H)).setCell (N (wr.heap.size+1) 3 Z) (U t))=W9 at X9 m9 B9 Gs ⊢;clear d1 Fl d2 Hp d3 FK q1 q2 G8 X7 m7 B7 k7 Fg mv Fj Gu;have FG:=ae (B4.trans (B9.mono (by omega)));have F8:=ae (fd.below B9 ly);have Hf:=F8.c1;have GV:=F8.lt;have tc:=(FG.cell (p:=(N tb (tf+x.tg*2+1) Z)) FP).trans Gn;have GW:tb<W9.heap.size:=lj FP FG.size;have htgI:(x.tg:Int)<(S.n1:Int):=by omega
    go_wp2_with fail;refine(iu ib io K ic (S.f1 x.tg).act W9 (by omega) (Hd.below FG ly)).mono ?_;rintro e GL ⟨g4,c4,rfl,Gc,CD⟩;have FH:=ae (X9.below CD X9.lt);obtain⟨d4,Hu⟩:=FH.c4;have FW:=ae (FH.set4 (Y (T (N g4 0 Z)) K c4));have Ge:Hid ((GL.setCell (N (wr.heap.size+1) 4 Z) (Y (T (N g4 0 Z)) K c4)).heap[wr.heap.size]?=T (Q #[U x.name,J I H,U t,Y Z 0 0,Y sa E X,QC QD] 161 (0,0))):=(qh _ _ _ _ (show wr.heap.size≠wr.heap.size+1 by omega)).trans ((CD.block _ (ag m9)).trans m9);have FV:=ae (aV (R:=wr.heap.size+1) (j:=4) (aE Gc (show wr.heap.size+2<=W9.heap.size by omega)) (by omega) (Y (T (N g4 0 Z)) K c4));have Gj:=ae ((B9.trans (CD.mono B9.size)).setCell (p:=(N (wr.heap.size+1) 4 Z)) (CV _) (Y (T (N g4 0 Z)) K c4));have Gp:=FH.lt;clear Gc CD tc Hf;go_wp2;generalize GL.setCell (N (wr.heap.size+1) 4 Z) (Y (T (N g4 0 Z)) K c4)=W11 at FW Ge FV Gj ⊢;clear d4 Hu FH Gp X9 m9 B9 FG F8 GV GW Gs;obtain⟨r,Ho⟩:∃ r,r=wr:=⟨_,rfl⟩
    subst Ho;go_loopw [8] (fun v wq=>∃ (k:Nat) (al:Option Addr) (cl:Nat),k<=E/\v=J I k/\Hid (DBox wq (r.heap.size+1) (U x.name) (J I 3) (J I H) (U t) (Y (T (N g4 0 Z)) K c4) (Y al k cl))/\Hid (wq.heap[r.heap.size]?=T (Q #[U x.name,J I H,U t,Y Z 0 0,Y sa E X,QC QD] 161 (0,0)))/\Hid (wq.ownsRow (r.heap.size+2) 146 3 (Y (T (N g4 0 Z)) K c4) K (ct (S.f1 x.tg).act K))/\Hid (wq.ownsRow (r.heap.size+2) 129 4 (Y al k cl) k (lkV f (x.looks.take k)))/\Hid (Below r.heap.size r wq)) (fun v _=>E - (intOf v).toNat);case atStart=>exact⟨0,Z,0,by omega,rfl,FW,Ge,FV,BG _ _ _ _,Gj⟩
    case round =>
     clear FW Ge FV Gj;obtain⟨k,al,cl,hk,rfl,FC,F1,Gk,Gi,n9⟩:=hrel;have m4:wr.cell? (N r.heap.size 4 Z)=T (Y sa E X):=by simp[World.cell?,F1.out]
     have ml:=ag F1.out;have hz12:r.heap.size+2<=wr.heap.size:=FC.lt;by_cases hlk:k<E
     ·obtain⟨l,hl⟩:∃ l,x.looks[k]?=T l:=⟨_,gq (by rw[<-DS.out];exact hlk)⟩
      obtain⟨sg,sc',e⟩:=dr FY (by omega);simp only[IB,MV] at e;obtain⟨rfl,rfl⟩:=e;have GJ:=(cX FY).2;have sn:∀ j,j<3->∀ u,[Value.string l.name,QC l.ask,QC l.has][j]?=T u->wr.cell? (N sg (k*3+j) Z)=T u:=fun j hj u hu=>(n9.cell (p:=(N sg (k*3+j) Z)) GJ).trans (zn (by have h:=FY.out;rw[DS.out] at h;exact h) hl j hj hu);have f0:=sn 0 (by omega) _ rfl;have f1:=sn 1 (by omega) _ rfl;have f2:=sn 2 (by omega) _ rfl;rw[show k*3+0=k*3 by omega] at f0;have Ft:sg<wr.heap.size:=lj GJ n9.size;have HL:=ae hl;have D:Hid (∀ V,Below wr.heap.size wr V->V.cell? (N r.heap.size 4 Z)=T (Y (T (N sg 0 Z)) E X)/\V.cell? (N sg (k*3) Z)=T (U l.name)/\V.cell? (N sg (k*3+1) Z)=T (QC l.ask)/\V.cell? (N sg (k*3+2) Z)=T (QC l.has)):=fun V y=>⟨(y.cell (p:=(N r.heap.size 4 Z)) ml).trans m4,(y.cell (p:=(N sg _ Z)) Ft).trans f0,(y.cell (p:=(N sg _ Z)) Ft).trans f1,(y.cell (p:=(N sg _ Z)) Ft).trans f2⟩
      have hk0:(0:Int)<=(k:Int):=by omega
      have hkI:(k:Int)<E:=by omega
      clear sn hl;go_upto_region 16 with fail;go_cut [9] (fun s wx=>s=.pointer (T (N wr.heap.size 0 Z))/\wx=(wr.alloc (Q #[U l.name,QC l.ask,QC l.has,J I 0] 129)).drew);case first =>
       clear m4 f0 f1 f2;go_region_held3 (fun V=>V.cell? (N r.heap.size 4 Z)=T (Y (T (N sg 0 Z)) E X)/\V.cell? (N sg (k*3) Z)=T (U l.name)/\V.cell? (N sg (k*3+1) Z)=T (QC l.ask)/\V.cell? (N sg (k*3+2) Z)=T (QC l.has)) (first | exact D _ br | exact D _ br.drew | exact D _ (br.drew.alloc ly _) | exact D _ (br.alloc ly _).drew | exact D _ ((((((q9 wr).drew.alloc ly _).setCell ly _).setCell ly _).setCell ly _).setCell ly _)) (fail);all_goals
        go_wp2_with fail;go_meet;exact⟨rfl,rfl⟩
      case rest =>
      obtain⟨rfl,rfl⟩:=hcut;have sm:=ae ((q9 wr).alloc ly (Q #[U l.name,QC l.ask,QC l.has,J I 0] 129)).drew;have QO:Hid ((wr.alloc (Q #[U l.name,QC l.ask,QC l.has,J I 0] 129)).drew.heap[wr.heap.size]?=T (Q #[U l.name,QC l.ask,QC l.has,J I 0] 129 (0,0))):=eT wr _;clear m4 f0 f1 f2 D;generalize (wr.alloc (Q #[U l.name,QC l.ask,QC l.has,J I 0] 129)).drew=z at sm QO ⊢;have th:=ae (FC.below sm FC.lt);have Fv:=ae ((sm.block _ ml).trans F1);have Gy:=ae (own_below Gk sm ly);have GI:=ae (own_below Gi sm ly);have At:=ae (n9.trans (sm.mono n9.size));have k1:z.cell? (N wr.heap.size 1 Z)=T (QC l.ask):=by simp[World.cell?,QO.out]
      go_upto_if 94 with fail;clear k1;cases hask:l.ask with
      | false =>
       have Gh:Hid (dE (lkD f l)=[U l.name,QC QB,QC l.has,J I 0]):=by show _=_;simp[dE,lkD,hask]
       rw[hask] at QO;have l0:z.cell? (N wr.heap.size 0 Z)=T (U l.name):=by simp[World.cell?,QO.out]
       have l1:z.cell? (N wr.heap.size 1 Z)=T (QC QB):=by simp[World.cell?,QO.out]
       have l2:z.cell? (N wr.heap.size 2 Z)=T (QC l.has):=by simp[World.cell?,QO.out]
       have l3:z.cell? (N wr.heap.size 3 Z)=T (J I 0):=by simp[World.cell?,QO.out]
       have ll:=ag QO.out;obtain⟨e5,Hi⟩:=th.c5;have A:=ae ((q9 z).alloc ly (Q #[U l.name,QC QB,QC l.has,J I 0] 129));have XA:=ae (th.below A th.lt);have mA:=ae ((A.block _ (ag Fv)).trans Fv);have OA:=ae (own_below Gy A ly);have PA:=ae (own_below GI A ly);have BA:=ae (At.trans (A.mono At.size));have Fz:(z.alloc (Q #[U l.name,QC QB,QC l.has,J I 0] 129)).heap.size=z.heap.size+1:=by simp
       have Hj:r.heap.size+2<=z.heap.size:=th.lt;go_wp2_with (at_builtin;refine CW _ rfl (.tmp 101) (.tmp 103) 44 rfl (r.heap.size+2) 129 il (QG #[U ⟨#[]⟩,QC QB,QC QB,J I 0]) 4 32 Tryz.underlying44 GO FO FZ F3 rfl (by decide) (Y al k cl) k (lkV f (x.looks.take k)) (by simp[Act.eval]) PA.out (N z.heap.size 0 Z) 1 1 [U l.name,QC QB,QC l.has,J I 0] (by simp[Act.eval]) rfl (vK z _ _ _ _ _) (by simp[Value.oneCell']) (by unfold maxLen;omega) (by omega) (by omega) ?_;intro v' wz o g _;obtain⟨az,cz,rfl⟩:=ep o;rw[<-Gh.out,<-tX f x.looks HL.out] at o;have PZ:=ae o;have GZ:=ae g;have XZ:=ae (XA.grown PA g (eL _));obtain⟨z5,Hv⟩:=XZ.c5;have zl:=XZ.lt;clear o g);have XY:=ae (XZ.set5 (Y az (k+1) cz));have mY:Hid ((wz.setCell (N (r.heap.size+1) 5 Z) (Y az (k+1) cz)).heap[r.heap.size]?=T (Q #[U x.name,J I H,U t,Y Z 0 0,Y (T (N sg 0 Z)) E X,QC QD] 161 (0,0))):=(qh _ _ _ _ (show r.heap.size≠r.heap.size+1 by omega)).trans ((GZ.block _ (ag mA) (fun e=>by have:=(PA.lt _ e.symm).1;omega)).trans mA);have OY:=ae (aV (R:=r.heap.size+1) (j:=5) (rh OA PA GZ (by decide)) (by omega) (Y az (k+1) cz));have PY:=ae (aV (R:=r.heap.size+1) (j:=5) PZ (by omega) (Y az (k+1) cz));have BY:=ae ((bg BA GZ (by omega) (fun j e=>by have:=(PA.lt j e).1;omega)).setCell (p:=(N (r.heap.size+1) 5 Z)) (CV _) (Y az (k+1) cz));exact⟨⟨k+1,az,cz,by omega,by go_num,XY,mY,OY,PY,BY⟩,by simp[intOf];omega⟩
      | true =>
       obtain⟨q,hq⟩:∃ q:Int,q=((jm f l.name:Nat):Int):=⟨_,rfl⟩
       have Gh:Hid (dE (lkD f l)=[U l.name,QC QD,QC l.has,J I q]):=by show _=_;simp[dE,lkD,hask,hq]
       have Gv:=ae ((At.block _ (ag k4)).trans k4);have ac:z.cell? (N (w.heap.size+1) 0 Z)=T (Y QP i c5):=by simp[World.cell?,Gv.out]
       have acl:=ag Gv.out;have Hq:z.cell? (N wr.heap.size 0 Z)=T (U l.name):=by simp[World.cell?,QO.out]
       have CA:Hid (Calls Tryz.prog 93 #[QG #[Y QP i c5],U l.name] z fun e w'=>e=QF (J I q)/\Below z.heap.size z w'):=by
        have hd:SlDeed z QP i (dF (R.map (·.1))):=by have h:=D4.below At.out ly;rw[<-QH] at h ⊢;exact h.deeds
        have h:=zy QP i c5 (dF (R.map (·.1))) l.name z (by omega) hd;rw[Bq GH.out HX.out (IE HL.out) hask Fo.out,<-hq] at h;exact h
       rw[hask] at QO;clear hq;go_wp2_with fail;refine CA.mono ?_;rintro e Fp ⟨rfl,la⟩;have Ff:=(la.block _ (ag QO)).trans QO;have q3:Fp.cell? (N wr.heap.size 3 Z)=T (J I 0):=by simp[World.cell?,Ff]
       have GY:Fp.frozen? (N wr.heap.size 3 Z)=QB:=by simp[World.frozen?,Ff]
       have Hh:=ag Ff;have n7:Hid ((Fp.setCell (N wr.heap.size 3 Z) (J I q)).heap[wr.heap.size]?=T (Q #[U l.name,QC QD,QC l.has,J I q] 129 (0,0))):=aA Ff _;have Fd:=ae ((th.below la th.lt).far (p:=(N wr.heap.size 3 Z)) (by show wr.heap.size≠r.heap.size+1;omega) (J I q));have Gf:Hid ((Fp.setCell (N wr.heap.size 3 Z) (J I q)).heap[r.heap.size]?=T (Q #[U x.name,J I H,U t,Y Z 0 0,Y (T (N sg 0 Z)) E X,QC QD] 161 (0,0))):=(qh _ _ _ _ (show r.heap.size≠wr.heap.size by omega)).trans ((la.block _ (ag Fv)).trans Fv);have GP:=ae (ay (own_below Gy la ly) (b:=wr.heap.size) (fun e=>by have:=(Gk.lt _ e).2;omega) 3 (J I q));have GK:=ae (ay (own_below GI la ly) (b:=wr.heap.size) (fun e=>by have:=(Gi.lt _ e).2;omega) 3 (J I q));have Gb:=ae ((At.trans (la.mono At.size)).setCell (p:=(N wr.heap.size 3 Z)) (by show r.heap.size<=wr.heap.size;omega) (J I q));clear Ff la ac Hq;go_upto_region 19 with fail;generalize Fp.setCell (N wr.heap.size 3 Z) (J I q)=QJ at n7 Fd Gf GP GK Gb ⊢;clear q3 GY Hh;have l0:QJ.cell? (N wr.heap.size 0 Z)=T (U l.name):=by simp[World.cell?,n7.out]
       have l1:QJ.cell? (N wr.heap.size 1 Z)=T (QC QD):=by simp[World.cell?,n7.out]
       have l2:QJ.cell? (N wr.heap.size 2 Z)=T (QC l.has):=by simp[World.cell?,n7.out]
       have l3:QJ.cell? (N wr.heap.size 3 Z)=T (J I q):=by simp[World.cell?,n7.out]
       have ll:=ag n7.out;obtain⟨e5,Hi⟩:=Fd.c5;have A:=ae ((q9 QJ).alloc ly (Q #[U l.name,QC QD,QC l.has,J I q] 129));have XA:=ae (Fd.below A Fd.lt);have mA:=ae ((A.block _ (ag Gf)).trans Gf);have OA:=ae (own_below GP A ly);have PA:=ae (own_below GK A ly);have BA:=ae (Gb.trans (A.mono Gb.size));have Fz:(QJ.alloc (Q #[U l.name,QC QD,QC l.has,J I q] 129)).heap.size=QJ.heap.size+1:=by simp
       have Hj:r.heap.size+2<=QJ.heap.size:=Fd.lt;go_wp2_with (at_builtin;refine CW _ rfl (.tmp 101) (.tmp 103) 44 rfl (r.heap.size+2) 129 il (QG #[U ⟨#[]⟩,QC QB,QC QB,J I 0]) 4 32 Tryz.underlying44 GO FO FZ F3 rfl (by decide) (Y al k cl) k (lkV f (x.looks.take k)) (by simp[Act.eval]) PA.out (N QJ.heap.size 0 Z) 1 1 [U l.name,QC QD,QC l.has,J I q] (by simp[Act.eval]) rfl (vK QJ _ _ _ _ _) (by simp[Value.oneCell']) (by unfold maxLen;omega) (by omega) (by omega) ?_;intro v' wz o g _;obtain⟨az,cz,rfl⟩:=ep o;rw[<-Gh.out,<-tX f x.looks HL.out] at o;have PZ:=ae o;have GZ:=ae g;have XZ:=ae (XA.grown PA g (eL _));obtain⟨z5,Hv⟩:=XZ.c5;have zl:=XZ.lt;clear o g);have XY:=ae (XZ.set5 (Y az (k+1) cz));have mY:Hid ((wz.setCell (N (r.heap.size+1) 5 Z) (Y az (k+1) cz)).heap[r.heap.size]?=T (Q #[U x.name,J I H,U t,Y Z 0 0,Y (T (N sg 0 Z)) E X,QC QD] 161 (0,0))):=(qh _ _ _ _ (show r.heap.size≠r.heap.size+1 by omega)).trans ((GZ.block _ (ag mA) (fun e=>by have:=(PA.lt _ e.symm).1;omega)).trans mA);have OY:=ae (aV (R:=r.heap.size+1) (j:=5) (rh OA PA GZ (by decide)) (by omega) (Y az (k+1) cz));have PY:=ae (aV (R:=r.heap.size+1) (j:=5) PZ (by omega) (Y az (k+1) cz));have BY:=ae ((bg BA GZ (by omega) (fun j e=>by have:=(PA.lt j e).1;omega)).setCell (p:=(N (r.heap.size+1) 5 Z)) (CV _) (Y az (k+1) cz));exact⟨⟨k+1,az,cz,by omega,by go_num,XY,mY,OY,PY,BY⟩,by simp[intOf];omega⟩
     ·have e:k=E:=by omega
      subst e;have P:Hid (DBox wr (r.heap.size+1) (U x.name) (J I x.kind) (J I x.code) (U x.text) (Y (T (N g4 0 Z)) K c4) (Y al k cl)):=by show DBox _ _ _ _ _ _ _ _;rw[HK.out,<-FJ.1,<-FJ.2];exact FC
      have ST:Hid (DSub wr r.heap.size (bm S f x,Y (T (N g4 0 Z)) K c4,Y al k cl)):=by
       refine⟨?_,?_⟩
       ·show World.ownsRow wr r.heap.size 146 3 (Y (T (N g4 0 Z)) K c4) (cI S x) (ct (S.f1 x.tg).act (cI S x))
        rw[Hk.out];exact aE Gk (by omega)
       ·show World.ownsRow wr r.heap.size 129 4 (Y al k cl) x.looks.length (bV (lkF f x.looks) x.looks.length)
        rw[Dz,<-DS.out];have h:=Gi.out;rw[I8 (by rw[<-DS.out];exact j6 _)] at h;exact aE h (by omega)
      have kT:=ae ((n9.block _ (ag k4)).trans k4);have ex:=ae ((n9.block _ (ag ph)).trans ph);have W:=n9;go_upto_region 24 with fail;clear m4;obtain⟨C,Hr⟩:∃ C,C=wr:=⟨_,rfl⟩
      subst Hr;obtain⟨t0,_⟩:=P.c0;obtain⟨t1,_⟩:=P.c1;obtain⟨t2,_⟩:=P.c2;obtain⟨t3,_⟩:=P.c3;obtain⟨t4,_⟩:=P.c4;obtain⟨t5,_⟩:=P.c5;have kc:C.cell? (N (w.heap.size+1) 0 Z)=T (Y QP i c5):=by simp[World.cell?,kT.out]
      have A:=ae ((q9 C).alloc ly (Q #[U x.name,J I x.kind,J I x.code,U x.text,Y (T (N g4 0 Z)) K c4,Y al k cl] 46));have DA:=ae (D4.below (W.trans (A.mono W.size)) ly);have SA:=ae (ST.below A ly);have kA:=ae ((A.block _ (ag kT)).trans kT);have n8:=ae ((A.block _ (ag ex)).trans ex);have BA:=ae (B4.trans ((W.trans (A.mono W.size)).mono (by omega)));have OW:Hid (World.ownsRow (C.alloc (Q #[U x.name,J I x.kind,J I x.code,U x.text,Y (T (N g4 0 Z)) K c4,Y al k cl] 46)) (w.heap.size+2) 46 6 (Y QP i c5) i (R.flatMap ddV)):=by have h:=DA.own;rw[QH] at h;exact h
      have aq:Hid (∀ j,(Value.slice QP i c5).ownBlock=T j->w.heap.size+2<=j):=fun j e=>(OW.lt j e).1;have Fz:(C.alloc (Q #[U x.name,J I x.kind,J I x.code,U x.text,Y (T (N g4 0 Z)) K c4,Y al k cl] 46)).heap.size=C.heap.size+1:=by simp
      have GC:=W.size;go_wp2_with (at_builtin;refine CW _ rfl (.tmp 121) (.tmp 123) 23 rfl (w.heap.size+2) 46 F9 (QG #[U ⟨#[]⟩,J I 0,J I 0,U ⟨#[]⟩,Y Z 0 0,Y Z 0 0]) 6 96 Tryz.underlying23 Gl Fu Fq Fs rfl (by decide) (Y QP i c5) i (R.flatMap ddV) (by simp[Act.eval]) OW.out (N C.heap.size 0 Z) 1 1 [U x.name,J I x.kind,J I x.code,U x.text,Y (T (N g4 0 Z)) K c4,Y al k cl] (by simp[Act.eval]) rfl (tY C _ _ _ _ _ _ _) (by simp[Value.oneCell']) (by unfold maxLen;omega) (by omega) (by omega) ?_;intro v' w9 o g _;obtain⟨O,M,rfl⟩:=ep o;have O9:=ae o;have G9:=ae g;have k9:=ae ((g.block _ (ag kA) (fun e=>by have:=aq.out _ e.symm;omega)).trans kA);have g9:w9.cell? (N (w.heap.size+1) 0 Z)=T (Y QP i c5):=(by simp[World.cell?,k9.out]);have f9:w9.frozen? (N (w.heap.size+1) 0 Z)=QB:=(by simp[World.frozen?,k9.out]);have l9:=ag k9.out;clear o g);have D9:Hid (DRow w9 (w.heap.size+2) (Y O (i+1) M) (R++[(bm S f x,Y (T (N g4 0 Z)) K c4,Y al k cl)])):=DRow.more D4 DA (by omega) SA (by rw[QH];exact O9) G9;have Fc:=ae ((G9.block _ (ag n8) (fun e=>by have:=aq.out _ e.symm;omega)).trans n8);have B9:=ae (bg BA G9 (by omega) (fun j e=>by have:=aq.out j e;omega));have Fk:=ae (D9.set (p:=(N (w.heap.size+1) 0 Z)) (e:=25) (.inl (eL _)) (Y O (i+1) M));have Fn:Hid ((w9.setCell (N (w.heap.size+1) 0 Z) (Y O (i+1) M)).heap[w.heap.size+1]?=T (Q #[Y O (i+1) M] 25 (0,0))):=aA k9 _;have ro:Hid ((w9.setCell (N (w.heap.size+1) 0 Z) (Y O (i+1) M)).heap[w.heap.size]?=T (Q #[Y Z 0 0] 25 (0,0))):=(qh _ _ _ _ (show w.heap.size≠w.heap.size+1 by omega)).trans Fc.out;have Fm:=ae (B9.setCell (p:=(N (w.heap.size+1) 0 Z)) (CV _) (Y O (i+1) M));refine⟨⟨i+1,O,M,_,by omega,by go_num,by rw[eI,QH];rfl,?_,Fk,Fn,ro,Fm⟩,by simp[intOf];omega⟩;show(R++[((bm S f x,Y (T (N g4 0 Z)) K c4,Y al k cl):DR)]).map (·.1)=_;rw[HJ,Fo.out,LF,HX.out];simp
  ·have e:i=n:=by omega
   subst e;have Hl:wr.cell? (N w.heap.size 0 Z)=T (Y Z 0 0):=by simp[World.cell?,ph.out]
   have rf0:wr.frozen? (N w.heap.size 0 Z)=QB:=by simp[World.frozen?,ph.out]
   have rl0:=ag ph.out;have ac0:wr.cell? (N (w.heap.size+1) 0 Z)=T (Y QP i c5):=by simp[World.cell?,k4.out]
   have al0:=ag k4.out;go_wp2;refine bp (v:=QG #[Y QP i c5]) (by simp[results,Tryz.results47,go_sem,Hl]) rfl ?_;subst QH;refine⟨QP,c5,R,rfl,?_,?_,?_⟩
   ·exact(D4.set (p:=(N w.heap.size 0 Z)) (e:=25) (.inl (show w.heap.size<w.heap.size+2 by omega)) _).mono (by omega)
   ·rw[Fo.out,I8 (by rw[<-HN.out];exact j6 _)]
    rfl
   ·exact B4.setCell (p:=(N w.heap.size 0 Z)) ly _
end
def t6 (w:G)(S:Spc)(b:List Ent × ji)(e:Ending)(f:G):Prop:=∃ a c R g,e=QF (.tuple #[QG #[Y a R.length c],g])/\DRow f w.heap.size (Y a R.length c) R/\R.map (·.1)=aO S b.1/\pA w f b.2 g/\Below w.heap.size w f
section
variable {S:Spc}{a0 a1:Option Addr}{c0 c1:Nat}
theorem ua (w:G)(nm:ByteArray)(u:SlSource w a0 S.n0 S.f0)(A:SlTarget w a1 S.n1 S.f1)(hn0:S.n0<=1048576)(hn1:S.n1<=1048576)(r:∀ i,i<S.n1->bk (S.f1 i))(QR:∀ i,i<S.n1->∀ j,j<(S.f1 i).actN->((S.f1 i).act j).s.size<=maxLen)(m:¬ (bh S.n0 S.f0 S.n1 S.f1=0/\au nm=QD)):Calls Tryz.prog 11 #[QG #[Y a0 S.n0 c0,Y a1 S.n1 c1],U nm] w fun e QL=>t6 w S ([],⟨9,⟨#[]⟩,[]⟩) e QL:=by
 have l:=ae ((((q9 w).alloc ly (Q #[Y a0 S.n0 c0,Y a1 S.n1 c1] 29)).alloc (by simp) (Q #[Y Z 0 0] 25)).alloc (by simp<;>omega) (Q #[J I 0,U ⟨#[]⟩,Y Z 0 0] 37));have n:=ae (eV a0 S.n0 c0 S.f0 a1 S.n1 c1 S.f1 (((w.alloc (Q #[Y a0 S.n0 c0,Y a1 S.n1 c1] 29)).alloc (Q #[Y Z 0 0] 25)).alloc (Q #[J I 0,U ⟨#[]⟩,Y Z 0 0] 37)) (by omega) (by omega) (u.below l ly) (A.below l ly) r QR);have o:Hid ((((w.alloc (Q #[Y a0 S.n0 c0,Y a1 S.n1 c1] 29)).alloc (Q #[Y Z 0 0] 25)).alloc (Q #[J I 0,U ⟨#[]⟩,Y Z 0 0] 37)).heap[w.heap.size+1]?=T (Q #[Y Z 0 0] 25 (0,0))):=by have h2:=eT (w.alloc (Q #[Y a0 S.n0 c0,Y a1 S.n1 c1] 29)) (Q #[Y Z 0 0] 25);rw[show(w.alloc (Q #[Y a0 S.n0 c0,Y a1 S.n1 c1] 29)).heap.size=w.heap.size+1 by simp] at h2;exact(((a8 (w.heap.size+2) _).alloc (by simp) _).block (w.heap.size+1) (by omega)).trans h2
 have q:Hid ((((w.alloc (Q #[Y a0 S.n0 c0,Y a1 S.n1 c1] 29)).alloc (Q #[Y Z 0 0] 25)).alloc (Q #[J I 0,U ⟨#[]⟩,Y Z 0 0] 37)).heap[w.heap.size+1+1]?=T (Q #[J I 0,U ⟨#[]⟩,Y Z 0 0] 37 (0,0))):=by have h2:=eT ((w.alloc (Q #[Y a0 S.n0 c0,Y a1 S.n1 c1] 29)).alloc (Q #[Y Z 0 0] 25)) (Q #[J I 0,U ⟨#[]⟩,Y Z 0 0] 37);rw[show((w.alloc (Q #[Y a0 S.n0 c0,Y a1 S.n1 c1] 29)).alloc (Q #[Y Z 0 0] 25)).heap.size=w.heap.size+1+1 by simp] at h2;exact h2
 obtain⟨E,y⟩:∃ E,E=bh S.n0 S.f0 S.n1 S.f1:=⟨_,rfl⟩
 rw[<-y] at n m;have QM:=ae m;clear u A r QR y m hn0 hn1;by_cases M:E=0
 ·have QO:Hid (au nm=QB):=by
   cases h:au nm with
   | false=>rfl
   | true=>exact absurd ⟨M,h⟩ QM
  subst M;go_enter Tryz.func11,Tryz.ntmps11;go_wp2_with fail;generalize ((w.alloc (Q #[Y a0 S.n0 c0,Y a1 S.n1 c1] 29)).alloc (Q #[Y Z 0 0] 25)).alloc (Q #[J I 0,U ⟨#[]⟩,Y Z 0 0] 37)=R at l n o q ⊢;refine n.mono ?_;clear n;rintro e t ⟨rfl,f⟩;have P:=ae (l.trans (f.mono l.size));have z:=ae ((f.block _ (ag o)).trans o);have x:=ae ((f.block _ (ag q)).trans q);clear f;go_wp2_with fail;refine(cP nm t).mono ?_;rintro e O ⟨K,f⟩;rw[QO.out] at K;subst K;have D:=ae (P.trans (f.mono P.size));have b:=(f.block _ (ag z)).trans z;obtain⟨rl,r0,r1,C,g⟩:=aY ((f.block _ (ag x)).trans x);have QP:=g 0;have L:=g 1;have QN:=g 2;have B:O.cell? (N (w.heap.size+1) 0 Z)=T (Y Z 0 0):=by simp[World.cell?,b]
  have H:O.frozen? (N (w.heap.size+1) 0 Z)=QB:=by simp[World.frozen?,b]
  have pl:=ag b;clear g f b;go_wp2_with fail;refine bp (v:=.tuple #[QG #[Y Z 0 0],QG #[J I 9,U ⟨#[]⟩,Y Z 0 0]]) (by simp[results,Tryz.results11,go_sem,B,r0,r1,C]) rfl ⟨Z,0,[],_,rfl,gD _ _,rfl,re _ _ _ _,?_⟩;exact(((D.setCell (p:=(N (w.heap.size+1) 0 Z)) (CV _) _).setCell (p:=(N (w.heap.size+1+1) 0 Z)) (by show w.heap.size<=w.heap.size+1+1;omega) _).setCell (p:=(N (w.heap.size+1+1) 1 Z)) (by show w.heap.size<=w.heap.size+1+1;omega) _).setCell (p:=(N (w.heap.size+1+1) 2 Z)) (by show w.heap.size<=w.heap.size+1+1;omega) _
 ·go_enter Tryz.func11,Tryz.ntmps11
  go_wp2_with fail;generalize ((w.alloc (Q #[Y a0 S.n0 c0,Y a1 S.n1 c1] 29)).alloc (Q #[Y Z 0 0] 25)).alloc (Q #[J I 0,U ⟨#[]⟩,Y Z 0 0] 37)=R at l n o q ⊢;refine n.mono ?_;clear n;rintro e t ⟨rfl,f⟩;have D:=ae (l.trans (f.mono l.size));have b:=(f.block _ (ag o)).trans o;obtain⟨rl,r0,r1,C,g⟩:=aY ((f.block _ (ag q)).trans q);have QP:=g 0;have L:=g 1;have QN:=g 2;have B:t.cell? (N (w.heap.size+1) 0 Z)=T (Y Z 0 0):=by simp[World.cell?,b]
  have H:t.frozen? (N (w.heap.size+1) 0 Z)=QB:=by simp[World.frozen?,b]
  have pl:=ag b;clear g f b;go_wp2_with fail;refine bp (v:=.tuple #[QG #[Y Z 0 0],QG #[J I 9,U ⟨#[]⟩,Y Z 0 0]]) (by simp[results,Tryz.results11,go_sem,B,r0,r1,C]) rfl ⟨Z,0,[],_,rfl,gD _ _,rfl,re _ _ _ _,?_⟩;exact(((D.setCell (p:=(N (w.heap.size+1) 0 Z)) (CV _) _).setCell (p:=(N (w.heap.size+1+1) 0 Z)) (by show w.heap.size<=w.heap.size+1+1;omega) _).setCell (p:=(N (w.heap.size+1+1) 1 Z)) (by show w.heap.size<=w.heap.size+1+1;omega) _).setCell (p:=(N (w.heap.size+1+1) 2 Z)) (by show w.heap.size<=w.heap.size+1+1;omega) _
theorem uR (w:G)(nm:ByteArray)(ex:SlSource w a0 S.n0 S.f0)(n7:SlTarget w a1 S.n1 S.f1)(hn0:S.n0<=1048576)(hn1:S.n1<=1048576)(aq:∀ i,i<S.n1->bk (S.f1 i))(hs:∀ i,i<S.n1->∀ j,j<(S.f1 i).actN->((S.f1 i).act j).s.size<=maxLen)(h1:bh S.n0 S.f0 S.n1 S.f1=0)(h2:au nm=QD):Calls Tryz.prog 11 #[QG #[Y a0 S.n0 c0,Y a1 S.n1 c1],U nm] w fun e w'=>t6 w S (aX S nm) e w':=by
 have A0:=ae ((((q9 w).alloc ly (Q #[Y a0 S.n0 c0,Y a1 S.n1 c1] 29)).alloc (by simp) (Q #[Y Z 0 0] 25)).alloc (by simp<;>omega) (Q #[J I 0,U ⟨#[]⟩,Y Z 0 0] 37));have HC:=ae (eV a0 S.n0 c0 S.f0 a1 S.n1 c1 S.f1 (((w.alloc (Q #[Y a0 S.n0 c0,Y a1 S.n1 c1] 29)).alloc (Q #[Y Z 0 0] 25)).alloc (Q #[J I 0,U ⟨#[]⟩,Y Z 0 0] 37)) (by omega) (by omega) (ex.below A0 ly) (n7.below A0 ly) aq hs);have kA:Hid ((((w.alloc (Q #[Y a0 S.n0 c0,Y a1 S.n1 c1] 29)).alloc (Q #[Y Z 0 0] 25)).alloc (Q #[J I 0,U ⟨#[]⟩,Y Z 0 0] 37)).heap[w.heap.size+1]?=T (Q #[Y Z 0 0] 25 (0,0))):=by have h2:=eT (w.alloc (Q #[Y a0 S.n0 c0,Y a1 S.n1 c1] 29)) (Q #[Y Z 0 0] 25);rw[show(w.alloc (Q #[Y a0 S.n0 c0,Y a1 S.n1 c1] 29)).heap.size=w.heap.size+1 by simp] at h2;exact(((a8 (w.heap.size+2) _).alloc (by simp) _).block (w.heap.size+1) (by omega)).trans h2
 have kR:Hid ((((w.alloc (Q #[Y a0 S.n0 c0,Y a1 S.n1 c1] 29)).alloc (Q #[Y Z 0 0] 25)).alloc (Q #[J I 0,U ⟨#[]⟩,Y Z 0 0] 37)).heap[w.heap.size+1+1]?=T (Q #[J I 0,U ⟨#[]⟩,Y Z 0 0] 37 (0,0))):=by have h2:=eT ((w.alloc (Q #[Y a0 S.n0 c0,Y a1 S.n1 c1] 29)).alloc (Q #[Y Z 0 0] 25)) (Q #[J I 0,U ⟨#[]⟩,Y Z 0 0] 37);rw[show((w.alloc (Q #[Y a0 S.n0 c0,Y a1 S.n1 c1] 29)).alloc (Q #[Y Z 0 0] 25)).heap.size=w.heap.size+1+1 by simp] at h2;exact h2
 have kS:Hid ((((w.alloc (Q #[Y a0 S.n0 c0,Y a1 S.n1 c1] 29)).alloc (Q #[Y Z 0 0] 25)).alloc (Q #[J I 0,U ⟨#[]⟩,Y Z 0 0] 37)).heap[w.heap.size]?=T (Q #[Y a0 S.n0 c0,Y a1 S.n1 c1] 29 (0,0))) :=
  ((((a8 (w.heap.size+1) _).alloc (by simp) _).alloc (by simp<;>omega) _).block w.heap.size (by omega)).trans (eT w _)
 have V0:=ae ex;have V1:=ae n7;have Fk:=ae aq;have CD:=ae (SpcOk.of h1);have H1:=ae h1;have H2:=ae h2;rw[h1] at HC;obtain⟨bb,QK⟩:∃ bb,bb=aX S nm:=⟨_,rfl⟩
 obtain⟨ph,o,-⟩:=pk S nm;rw[<-QK] at ph o ⊢;unfold aX at QK;rw[gM ⟨h1,h2⟩] at QK;have fd:=ae QK;have Fl:=ae ph;have Fg:=ae o;clear ex n7 aq hs hn0 hn1 h1 h2 QK ph o;go_enter Tryz.func11,Tryz.ntmps11;go_wp2_with fail;generalize ((w.alloc (Q #[Y a0 S.n0 c0,Y a1 S.n1 c1] 29)).alloc (Q #[Y Z 0 0] 25)).alloc (Q #[J I 0,U ⟨#[]⟩,Y Z 0 0] 37)=W0 at A0 HC kA kR kS ⊢;refine HC.mono ?_;clear HC;rintro e w1 ⟨rfl,u⟩;have B1:=ae (A0.trans (u.mono A0.size));have Fd:=ae ((u.block _ (ag kA)).trans kA);have ro:=ae ((u.block _ (ag kR)).trans kR);have At:=ae ((u.block _ (ag kS)).trans kS);clear u;go_wp2_with fail;refine(cP nm w1).mono ?_;rintro e w2 ⟨he,u⟩;rw[H2.out] at he;subst he;have B2:=ae (B1.trans (u.mono B1.size));have qr:=ae ((u.block _ (ag Fd)).trans Fd);have sm:=ae ((u.block _ (ag ro)).trans ro);have ld:=ae ((u.block _ (ag At)).trans At);have hsl:w.heap.size<w2.heap.size:=ag ld.out;have q0:w2.cell? (N w.heap.size 0 Z)=T (Y a0 S.n0 c0):=by simp[World.cell?,ld.out]
 have q1:w2.cell? (N w.heap.size 1 Z)=T (Y a1 S.n1 c1):=by simp[World.cell?,ld.out]
 clear u;go_wp2_with fail;refine(uP w2 ⟨V0.below B2 ly,V1.below B2 ly,CD⟩ nm H2).mono ?_;rintro e f ⟨hb,rfl,q,u⟩;have B3:=ae (B2.trans (u.mono B2.size));have n:=ae ((u.block _ (ag qr)).trans qr);have m:=ae ((u.block _ (ag sm)).trans sm);clear q0 q1 u;have P:w.heap.size<=f.heap.size:=B3.size;have B:=uQ S 60 [] [] nm;rcases hl:aZ S 60 [] [] nm with ⟨QP,x⟩ | c | d
 ·rw[hl] at q
  obtain⟨r,z⟩:∃ r,r=du x:=⟨_,rfl⟩
  have e:bb=(QP,r):=by rw[fd.out,hl,z]
  subst e;obtain⟨L,md,or,st,g,ur,DS,Fe,hrel⟩:=q;obtain⟨O,b0,b1,b2,b3,-,X,b6,b7,b8,-⟩:=g.facts;have Fj:Hid (ShAt w2.heap.size f hb (Y a0 S.n0 c0) (Y a1 S.n1 c1) md or L QP):=⟨O,b0,b1,b2,b3,ur,DS,Fe⟩
  have Fh:=ae hrel;have n8:r.chain=[]:=by rw[z];unfold du;split<;>rfl
  rw[<-z] at X b6;have mv:=ae n8;have SQ:Hid (∀ V:G,V.heap[hb]?=f.heap[hb]?->V.cell? (N hb 5 Z)=T (J I r.code)/\V.cell? (N hb 6 Z)=T (U r.text)/\V.cell? (N hb 7 Z)=T (Y Z 0 0)):=fun V h=>⟨(cq (a:=(N hb 5 Z)) h).trans X,(cq (a:=(N hb 6 Z)) h).trans b6,(cq (a:=(N hb 7 Z)) h).trans b7⟩
  have QL:hb≠w.heap.size+1:=fun e=>by have:=ar g (e ▸ n.out);exact absurd this (by decide)
  have M:hb≠w.heap.size+1+1:=fun e=>by have:=ar g (e ▸ m.out);exact absurd this (by decide)
  have CM:Hid (Calls Tryz.prog 47 #[.pointer (T (N hb 0 Z))] f.drew fun e w'=>∃ a c R,e=QF (QG #[Y a R.length c])/\DRow w' f.heap.size (Y a R.length c) R/\R.map (·.1)=aO S QP/\Below f.heap.size f w'):=by have hd:Below f.heap.size f f.drew:=br.drew;have h:=xI w2.heap.size f.drew hb md or L QP (Fj.below hd ly) Fh Fl Fg (V0.below (B3.trans (hd.mono P)) ly) (V1.below (B3.trans (hd.mono P)) ly) CD Fk;exact h.mono fun e w' ⟨a,c,R,h1,h2,h3,h4⟩=>⟨a,c,R,h1,h2,h3,h4.os,h4.tape,h4.output,h4.size,h4.block⟩
  clear z n8 hrel g ur DS Fe b0 b1 b2 b3 hl B;go_wp2_with fail;refine wp_region_held_drew (S:=fun V=>V.cell? (N hb 5 Z)=T (J I r.code)/\V.cell? (N hb 6 Z)=T (U r.text)/\V.cell? (N hb 7 Z)=T (Y Z 0 0)) (by as_aux_lemma=>kernel_rfl) (SQ _ rfl) ?_;intro hS;have W:=ae hS;clear hS X b6 b7 b8;refine bB 0 (v:=?_) rfl rfl (by as_aux_lemma=>kernel_rfl) (fun _ _ _ h=>h) rfl ?_ W ?_;rotate_left
  ·(intro wz la;obtain⟨s0,s1,s2⟩:=la;go_simp)
   (try with_reducible rfl)
  (try simp only[Act.put,nzL])
  iterate 4
   refine bB 2 (v:=?_) rfl rfl (by as_aux_lemma=>kernel_rfl) (fun _ _ _ h=>h) rfl ?_ W ?_;rotate_left
   ·(intro wz la;obtain⟨s0,s1,s2⟩:=la;go_simp)
    (try with_reducible rfl)
   (try simp only[Act.put,nzL])
  refine aR (i:=1) rfl (by as_aux_lemma=>kernel_rfl) (fun K QN=>?_);go_simp;go_at_call 47;refine CM.mono ?_;rintro e w4 ⟨a5,c5,R,rfl,E9,Ff,Fb⟩;have D4:=ae E9;have M4:=ae Ff;have B4:=ae Fb;clear E9 Ff Fb W;have W:=ae (SQ w4 (B4.block _ O));refine QN _ _ W ?_;clear QN K
  (try simp only[Act.put,nzL])
  refine aR (i:=6) rfl (by as_aux_lemma=>kernel_rfl) (fun K QN=>?_);go_simp;go_at_call 46;have CC:=lH w4 r Z 0 w4.heap.size (by rw[mv.out];exact⟨rfl,.inl ⟨rfl,rfl⟩⟩) (by rw[mv.out];exact DN _);rw[mv.out] at CC;refine CC.mono ?_;clear CC;rintro e QO ⟨rv,rfl,⟨y,A,rfl,E⟩,H⟩;have t:=ae E;have D:=ae H;have bt:f.heap.size<=w4.heap.size:=B4.size;have l:=(D.block _ (lj (ag n) bt)).trans ((B4.block _ (ag n)).trans n);have QR:=(D.block _ (lj (ag m) bt)).trans ((B4.block _ (ag m)).trans m);obtain⟨rl,r0,r1,r2,C⟩:=aY QR;have DE:=C 0;have Fa:=C 1;have Fc:=C 2;have QM:QO.cell? (N (w.heap.size+1) 0 Z)=T (Y Z 0 0):=by simp[World.cell?,l]
  have Bk:QO.frozen? (N (w.heap.size+1) 0 Z)=QB:=by simp[World.frozen?,l]
  have pl:=ag l;have th:w.heap.size+1<f.heap.size:=ag n.out;have DQ:w.heap.size+1+1<f.heap.size:=ag m.out;have n9:=(D.block hb (lj O bt)).trans (B4.block hb O);clear C l QR W E H;have W:=ae (SQ QO n9);refine QN _ _ W ?_;clear QN K
  (try simp only[Act.put,nzL])
  refine aR (i:=7) rfl (by as_aux_lemma=>kernel_rfl) (fun K QN=>?_);go_simp;have Fm:=ae (SQ (QO.setCell (N (w.heap.size+1) 0 Z) (Y a5 R.length c5)) ((qh _ _ _ _ QL).trans n9));refine QN _ _ Fm ?_;clear QN K
  (try simp only[Act.put])
  have Fi:=ae (SQ ((((QO.setCell (N (w.heap.size+1) 0 Z) (Y a5 R.length c5)).setCell (N (w.heap.size+1+1) 0 Z) (J I r.code)).setCell (N (w.heap.size+1+1) 1 Z) (U r.text)).setCell (N (w.heap.size+1+1) 2 Z) (Y y r.chain.length A)) ((qh _ _ _ _ M).trans ((qh _ _ _ _ M).trans ((qh _ _ _ _ M).trans ((qh _ _ _ _ QL).trans n9)))));refine aR (i:=8) rfl (by as_aux_lemma=>kernel_rfl) (fun K QN=>?_);go_simp;refine QN _ _ Fi ?_;clear QN K
  (try simp only[Act.put])
  refine wpAnyH_done (by as_aux_lemma=>kernel_rfl) ?_ _;have QJ:=ae (ay (ay (ay (ay t (b:=w.heap.size+1) (fun e=>by have:=(aj t _ e).1;omega) 0 (Y a5 R.length c5)) (b:=w.heap.size+1+1) (fun e=>by have:=(aj t _ e).1;omega) 0 (J I r.code)) (b:=w.heap.size+1+1) (fun e=>by have:=(aj t _ e).1;omega) 1 (U r.text)) (b:=w.heap.size+1+1) (fun e=>by have:=(aj t _ e).1;omega) 2 (Y y r.chain.length A));have DF:=ae (((((D4.below D ly).set (p:=(N (w.heap.size+1) 0 Z)) (e:=25) (.inl (by show w.heap.size+1<f.heap.size;omega)) (Y a5 R.length c5)).set (p:=(N (w.heap.size+1+1) 0 Z)) (e:=25) (.inl (by show w.heap.size+1+1<f.heap.size;omega)) (J I r.code)).set (p:=(N (w.heap.size+1+1) 1 Z)) (e:=25) (.inl (by show w.heap.size+1+1<f.heap.size;omega)) (U r.text)).set (p:=(N (w.heap.size+1+1) 2 Z)) (e:=25) (.inl (by show w.heap.size+1+1<f.heap.size;omega)) (Y y r.chain.length A));have BF:=ae (((((B3.trans ((B4.trans (D.mono bt)).mono P)).setCell (p:=(N (w.heap.size+1) 0 Z)) (by show w.heap.size<=w.heap.size+1;omega) (Y a5 R.length c5)).setCell (p:=(N (w.heap.size+1+1) 0 Z)) (by show w.heap.size<=w.heap.size+1+1;omega) (J I r.code)).setCell (p:=(N (w.heap.size+1+1) 1 Z)) (by show w.heap.size<=w.heap.size+1+1;omega) (U r.text)).setCell (p:=(N (w.heap.size+1+1) 2 Z)) (by show w.heap.size<=w.heap.size+1+1;omega) (Y y r.chain.length A));go_wp2;refine bp (v:=.tuple #[QG #[Y a5 R.length c5],QG #[J I r.code,U r.text,Y y r.chain.length A]]) (by simp[results,Tryz.results11,go_sem,QM,r0,r1,r2]) rfl ⟨a5,c5,R,_,rfl,DF.mono P,M4,⟨y,A,rfl,aE QJ (by omega)⟩,BF⟩
 ·rw[hl] at q
  obtain⟨r,z⟩:∃ r,r=iM c:=⟨_,rfl⟩
  have e:bb=([],r):=by rw[fd.out,hl,z];rfl
  subst e;obtain⟨a,k,u0,u1,md,or,st,g,QH⟩:=q;have o:r.chain.length<=1000:=by rw[z];exact p9 (B c hl) (by simp)
  have q:c.length=r.chain.length:=by rw[z];rfl
  rw[<-z,q] at g QH;clear z q;obtain⟨O,-,-,-,-,-,X,b6,b7,b8,-⟩:=g.facts;have n6:=ae (lH f r a k _ QH o);have QL:hb≠w.heap.size+1:=fun e=>by have:=ar g (e ▸ n.out);exact absurd this (by decide)
  have M:hb≠w.heap.size+1+1:=fun e=>by have:=ar g (e ▸ m.out);exact absurd this (by decide)
  clear hl B g QH o;go_wp2_with fail;refine n6.mono ?_;rintro e QO ⟨rv,rfl,⟨y,A,rfl,E⟩,H⟩;have t:=ae E;have D:=ae H;have l:=(D.block _ (ag n)).trans n;have QR:=(D.block _ (ag m)).trans m;obtain⟨rl,r0,r1,r2,C⟩:=aY QR;have DE:=C 0;have Fa:=C 1;have Fc:=C 2;have QM:QO.cell? (N (w.heap.size+1) 0 Z)=T (Y Z 0 0):=by simp[World.cell?,l]
  have Bk:QO.frozen? (N (w.heap.size+1) 0 Z)=QB:=by simp[World.frozen?,l]
  have pl:=ag l;have th:w.heap.size+1<f.heap.size:=ag n.out;have DQ:w.heap.size+1+1<f.heap.size:=ag m.out;have QJ:=ae (ay (ay (ay (ay t (b:=w.heap.size+1) (fun e=>by have:=(aj t _ e).1;omega) 0 (Y Z 0 0)) (b:=w.heap.size+1+1) (fun e=>by have:=(aj t _ e).1;omega) 0 (J I r.code)) (b:=w.heap.size+1+1) (fun e=>by have:=(aj t _ e).1;omega) 1 (U r.text)) (b:=w.heap.size+1+1) (fun e=>by have:=(aj t _ e).1;omega) 2 (Y y r.chain.length A));have BF:=ae (((((B3.trans (D.mono P)).setCell (p:=(N (w.heap.size+1) 0 Z)) (by show w.heap.size<=w.heap.size+1;omega) (Y Z 0 0)).setCell (p:=(N (w.heap.size+1+1) 0 Z)) (by show w.heap.size<=w.heap.size+1+1;omega) (J I r.code)).setCell (p:=(N (w.heap.size+1+1) 1 Z)) (by show w.heap.size<=w.heap.size+1+1;omega) (U r.text)).setCell (p:=(N (w.heap.size+1+1) 2 Z)) (by show w.heap.size<=w.heap.size+1+1;omega) (Y y r.chain.length A));clear C l QR E H X b6 b7 b8;go_wp2_with fail;refine bp (v:=.tuple #[QG #[Y Z 0 0],QG #[J I r.code,U r.text,Y y r.chain.length A]]) (by simp[results,Tryz.results11,go_sem,QM,r0,r1,r2]) rfl ⟨Z,0,[],_,rfl,gD _ _,rfl,⟨y,A,rfl,?_⟩,?_⟩
  ·first | exact aE QJ (by omega) | (have h:=aE QJ (show w.heap.size<=f.heap.size by omega);simpa[QM] using h)
  ·first | exact BF | simpa[QM] using BF.out
 ·rw[hl] at q
  obtain⟨r,z⟩:∃ r,r=iN d:=⟨_,rfl⟩
  have e:bb=([],r):=by rw[fd.out,hl,z];rfl
  subst e;obtain⟨u0,u1,md,or,st,g,QH⟩:=q;have o:r.chain.length<=1000:=by rw[z];exact DN _
  have q:0=r.chain.length:=by rw[z];rfl
  rw[<-z,q] at g QH;clear z q;obtain⟨O,-,-,-,-,-,X,b6,b7,b8,-⟩:=g.facts;have n6:=ae (lH f r Z r.chain.length _ QH o);have QL:hb≠w.heap.size+1:=fun e=>by have:=ar g (e ▸ n.out);exact absurd this (by decide)
  have M:hb≠w.heap.size+1+1:=fun e=>by have:=ar g (e ▸ m.out);exact absurd this (by decide)
  clear hl B g QH o;go_wp2_with fail;refine n6.mono ?_;rintro e QO ⟨rv,rfl,⟨y,A,rfl,E⟩,H⟩;have t:=ae E;have D:=ae H;have l:=(D.block _ (ag n)).trans n;have QR:=(D.block _ (ag m)).trans m;obtain⟨rl,r0,r1,r2,C⟩:=aY QR;have DE:=C 0;have Fa:=C 1;have Fc:=C 2;have QM:QO.cell? (N (w.heap.size+1) 0 Z)=T (Y Z 0 0):=by simp[World.cell?,l]
  have Bk:QO.frozen? (N (w.heap.size+1) 0 Z)=QB:=by simp[World.frozen?,l]
  have pl:=ag l;have th:w.heap.size+1<f.heap.size:=ag n.out;have DQ:w.heap.size+1+1<f.heap.size:=ag m.out;have QJ:=ae (ay (ay (ay (ay t (b:=w.heap.size+1) (fun e=>by have:=(aj t _ e).1;omega) 0 (Y Z 0 0)) (b:=w.heap.size+1+1) (fun e=>by have:=(aj t _ e).1;omega) 0 (J I r.code)) (b:=w.heap.size+1+1) (fun e=>by have:=(aj t _ e).1;omega) 1 (U r.text)) (b:=w.heap.size+1+1) (fun e=>by have:=(aj t _ e).1;omega) 2 (Y y r.chain.length A));have BF:=ae (((((B3.trans (D.mono P)).setCell (p:=(N (w.heap.size+1) 0 Z)) (by show w.heap.size<=w.heap.size+1;omega) (Y Z 0 0)).setCell (p:=(N (w.heap.size+1+1) 0 Z)) (by show w.heap.size<=w.heap.size+1+1;omega) (J I r.code)).setCell (p:=(N (w.heap.size+1+1) 1 Z)) (by show w.heap.size<=w.heap.size+1+1;omega) (U r.text)).setCell (p:=(N (w.heap.size+1+1) 2 Z)) (by show w.heap.size<=w.heap.size+1+1;omega) (Y y r.chain.length A));clear C l QR E H X b6 b7 b8;go_wp2_with fail;refine bp (v:=.tuple #[QG #[Y Z 0 0],QG #[J I r.code,U r.text,Y y r.chain.length A]]) (by simp[results,Tryz.results11,go_sem,QM,r0,r1,r2]) rfl ⟨Z,0,[],_,rfl,gD _ _,rfl,⟨y,A,rfl,?_⟩,?_⟩
  ·first | exact aE QJ (by omega) | (have h:=aE QJ (show w.heap.size<=f.heap.size by omega);simpa[QM] using h)
  ·first | exact BF | simpa[QM] using BF.out
theorem mG (w:G)(nm:ByteArray)(g:SlSource w a0 S.n0 S.f0)(f:SlTarget w a1 S.n1 S.f1)(hn0:S.n0<=1048576)(hn1:S.n1<=1048576)(b:∀ i,i<S.n1->bk (S.f1 i))(l:∀ i,i<S.n1->∀ j,j<(S.f1 i).actN->((S.f1 i).act j).s.size<=maxLen):Calls Tryz.prog 11 #[QG #[Y a0 S.n0 c0,Y a1 S.n1 c1],U nm] w fun e m=>t6 w S (aX S nm) e m:=by
 by_cases h:bh S.n0 S.f0 S.n1 S.f1=0/\au nm=QD
 ·exact uR w nm g f hn0 hn1 b l h.1 h.2
 ·have e:aX S nm=([],⟨9,⟨#[]⟩,[]⟩):=by unfold aX;rw[cM h]
  rw[e];exact ua w nm g f hn0 hn1 b l h
end
end Go.Proofs.YtamacmnikdejeaaGreatDoor.Vp
