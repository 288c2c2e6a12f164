import Derived.Test.YtamacmnikdejeaaGreatDoorXW
import Derived.Test.YtamacmnikdejeaaGreatDoorZY
set_option maxRecDepth 100000
set_option maxHeartbeats 8000000
open Go.Addr renaming mk->T
open Go.Value renaming slice->Y,string->U,int->I,bool->QT,agg->QV
open Option renaming none->Z,some->N
open Go.Obj renaming cells->Q
open Go.IntKind renaming i64->J
open Go renaming World->H,Value->QS
open Bool renaming false->QQ,true->QR
open Go.Ending renaming returned->QU
namespace Go.Proofs.YtamacmnikdejeaaGreatDoor.Vp
open RowKit
def lkV (b:List Ent)(c:List Lk):List QS:=c.flatMap fun l=>dV (lkD b l)
theorem Fo (b:List Ent)(c:List Lk):bZ (lkF b c) c.length=lkV b c:=by
 unfold bZ lkV;rw[show(List.range c.length).map (lkF b c)=c.map (lkD b) from ?_,NS];refine NM fun i=>?_;rw[IN,IN];rcases KP i c.length with h | h
 ·rw[List.getElem?_range h,gq h]
  simp only[PV];rw[kW (gq h)]
 ·rw[J2 h,J2 (by simpa using h)]
  rfl
theorem uC (b:List Ent)(c:List Lk){k:Nat}{l:Lk}(h:c[k]?=N l):lkV b (c.take (k+1))=lkV b (c.take k)++dV (lkD b l):=by rw[NL,h];simp[lkV]
theorem wT (w:H)(f g c b:QS)(t:TypeId):∀ j u,[f,g,c,b][j]?=N u->(w.alloc (Q #[f,g,c,b] t)).cell? (((T w.heap.size 0 Z):Addr).add j)=N u:=by
 intro j u h;rw[addr_add];match j,h with
 | 0,h=>simp at h;subst h;simp
 | 1,h=>simp at h;subst h;simp
 | 2,h=>simp at h;subst h;simp
 | 3,h=>simp at h;subst h;simp
 | k+4,h=>simp at h
theorem DBox.grown {w o:H}{b c size n:Nat}{p i g m f j v:QS}{e:TypeId}{r:List QS}(h:DBox w b p i g m f j)(q:w.ownsRow c e size v n r)(l:w.grownBy o v.ownBlock)(hb:b<c):DBox o b p i g m f j :=
 h.blk l.size (l.block b h.lt fun e=>by have:=(q.lt b e.symm).1;omega)
theorem rS {w o:H}{b size n c f r:Nat}{v g:QS}{e m:TypeId}{p j:List QS}(h:w.ownsRow b e size v n p)(t:w.ownsRow c m f g r j)(s:w.grownBy o g.ownBlock)(i:e≠m):o.ownsRow b e size v n p :=
 dx h fun k l=>s.block k (h.lt k l).2 fun q=>(fO h k l).ne (Ne.symm i) (fO t k q.symm)
end Go.Proofs.YtamacmnikdejeaaGreatDoor.Vp
namespace Go.Proofs.YtamacmnikdejeaaGreatDoor.Vp
open RowKit Ca
theorem uD (w:H)(g i f c b l:QS)(t:TypeId):∀ j u,[g,i,f,c,b,l][j]?=N u->(w.alloc (Q #[g,i,f,c,b,l] t)).cell? (((T w.heap.size 0 Z):Addr).add j)=N u:=by
 intro j u h;rw[addr_add];match j,h with
 | 0,h=>simp at h;subst h;simp
 | 1,h=>simp at h;subst h;simp
 | 2,h=>simp at h;subst h;simp
 | 3,h=>simp at h;subst h;simp
 | 4,h=>simp at h;subst h;simp
 | 5,h=>simp at h;subst h;simp
 | k+6,h=>simp at h
section
variable {S:Spc}{a0 a1:Option Addr}{c0 c1:Nat}
end
structure ShAt (B:Nat)(w:H)(hb:Nat)(s0 s1 md or:QS)(L:List SM)(made:List Ent):Prop where
 lt:hb<w.heap.size
 c0:w.cell? (T hb 0 Z)=N s0
 c1:w.cell? (T hb 1 Z)=N s1
 c2:w.cell? (T hb 2 Z)=N md
 c3:w.cell? (T hb 3 Z)=N or
 rmd:w.ownsRow B 161 6 md L.length (L.flatMap smV)
 ror:w.ownsRow B 9 1 or made.length (cu (made.map (·.name)))
 seen:∀ m∈L,m.done=QR->w.ownsRow B 164 3 m.sv m.seen.length (eB m.seen)
theorem ShAt.below {B C:Nat}{w n:H}{hb:Nat}{o l i j:QS}{L:List SM}{c:List Ent}(h:ShAt B w hb o l i j L c)(b:Below C w n)(g:w.heap.size<=C):ShAt B n hb o l i j L c:=by have f:hb<C:=lj h.lt g;exact⟨lj h.lt b.size,(b.cell (p:=(T hb 0 Z)) f).trans h.c0,(b.cell (p:=(T hb 1 Z)) f).trans h.c1,(b.cell (p:=(T hb 2 Z)) f).trans h.c2,(b.cell (p:=(T hb 3 Z)) f).trans h.c3,own_below h.rmd b g,own_below h.ror b g,fun m r q=>own_below (h.seen m r q) b g⟩
theorem Ge {L:List SM}{b:List Ent}(h:fA L [] b){i:Nat}{x:Ent}(f:b[i]?=N x):∃ k m,fI L x.name=N k/\L[k]?=N m/\m.name=x.name/\m.done=QR/\m.code=(dK x).code/\m.text=(dK x).text/\m.seen=x.looks:=by obtain⟨m,n,c,o,q,p,j⟩:=h.got x (IF f);obtain⟨k,g,l⟩:=qN h.nod n c;exact⟨k,m,g,l,c,o,q,p,j⟩
theorem uE {S:Spc}{made:List Ent}{x:Ent}(h1:cT S x=0)(h2:x.looks=[])(W:H)(b:Nat):DSub W b (bk S made x,Y Z 0 0,Y Z 0 0):=by
 refine⟨?_,?_⟩
 ·show W.ownsRow b 146 3 (Y Z 0 0) (cT S x) (cF (S.f1 x.tg).act (cT S x))
  rw[h1];exact CP _ _ _ _
 ·show W.ownsRow b 129 4 (Y Z 0 0) x.looks.length (bZ (lkF made x.looks) x.looks.length)
  rw[h2];exact CP _ _ _ _
theorem DO {S:Spc}{b:List Ent}(h:PG S [] b){i:Nat}{x:Ent}(q:b[i]?=N x){l:Lk}(r:l∈x.looks)(p:l.ask=QR){D:List aj}(s:D=(b.take i).map (bk S b)):jx (dF D) l.name i=((jK b l.name:Nat):Int):=by
 obtain⟨y,g,hn,n⟩:=h.asked q r p;have f:∀ (j:Nat) (z:Ent),j<i->b[j]?=N z->(dF D j).name=z.name:=fun j z m hz=>by unfold dF;rw[s,BO,IN,List.getElem?_take_of_lt m,hz];rfl
 unfold jx;refine fM n ?_ fun j m=>?_
 ·rw[f _ y n g,hn]
  simp
 ·have o:=(gM.1 g).1
  have hz:b[j]?=N b[j]:=gq (by omega);rw[f j _ (by omega) hz];have c:=DC.1 h.nod j _ (by omega) o m;rw[(gM.1 g).2,hn] at c;cases hb:(b[j].name.toList == l.name.toList) with
  | false=>rfl
  | true=>exact absurd (bytes_beq hb) c
theorem AJ {w:H}{f g c:Nat}{b:List Lk}(h:w.ownsRow f 164 3 (Y (N (T g 0 Z)) b.length c) b.length (eB b)){k:Nat}{l:Lk}(n:b[k]?=N l)(j:Nat)(m:j<3){u:QS}(i:[Value.string l.name,QT l.ask,QT l.has][j]?=N u):w.cell? (T g (k*3+j) Z)=N u :=
 (bB h (j:=k*3+j) (u:=u) (by rw[eB,cW (fun l:Lk=>[Value.string l.name,QT l.ask,QT l.has]) 3 (fun _=>rfl) b k j m l n];exact i)).1
section
variable {S:Spc}{a0 a1:Option Addr}{c0 c1:Nat}
theorem yO (B:Nat)(w:H)(hb:Nat)(md or:QS)(L:List SM)(f:List Ent)
  (Hd:ShAt B w hb (Y a0 S.n0 c0) (Y a1 S.n1 c1) md or L f) (hrel:fA L [] f) (Iz0:PG S [] f) (I6:f.length<=40201)
  (IB:SlSource w a0 S.n0 S.f0) (IQ:SlTarget w a1 S.n1 S.f1) (Iz:SpcOk S) (Ht:∀ i,i<S.n1->bP (S.f1 i)) :
  Calls Tryz.prog 47 #[.pointer (N (T hb 0 Z))] w fun e w'=>∃ a c R,e=QU (QV #[Y a R.length c])/\DRow w' w.heap.size (Y a R.length c) R/\R.map (·.1)=aM S f/\Below w.heap.size w w':=by
 have IE:=ae Hd;have I9:=ae hrel;have Iw:=ae Iz0;have V0:=ae IB;have V1:=ae IQ;have GO:=ae Iz;have Ja:=ae Ht;have Jd:L.length<=40201:=by have:=hrel.len;simp only[IS,KJ] at this;omega
 obtain⟨am,cm,rfl⟩:=eO Hd.rmd;obtain⟨ao,co,rfl⟩:=eO Hd.ror;obtain⟨QZ,hN⟩:∃ QZ,QZ=L.length:=⟨_,rfl⟩
 obtain⟨n,hn⟩:∃ n,n=f.length:=⟨_,rfl⟩
 have mv:=ae hN;have HN:=ae hn;rw[<-hN,<-hn] at IE;rw[<-hN] at Jd;rw[<-hn] at I6;clear Hd hrel Iz0 IB IQ Iz Ht hN hn;obtain⟨il,IW,HU,Hw,Hq⟩:=JV oy;obtain⟨Im,H6,GY,GW,G8⟩:=JV ie;have A0:=ae (((q9 w).alloc ly (Q #[Y Z 0 0] 25)).alloc (by simp) (Q #[Y Z 0 0] 25))
 have kR:Hid (((w.alloc (Q #[Y Z 0 0] 25)).alloc (Q #[Y Z 0 0] 25)).heap[w.heap.size]?=N (Q #[Y Z 0 0] 25 (0,0))) :=
  ((((eL (w.heap.size+1) _).alloc (by simp) _).block w.heap.size (by omega)).trans (cM w _))
 have kA:Hid (((w.alloc (Q #[Y Z 0 0] 25)).alloc (Q #[Y Z 0 0] 25)).heap[w.heap.size+1]?=N (Q #[Y Z 0 0] 25 (0,0))):=by have h2:=cM (w.alloc (Q #[Y Z 0 0] 25)) (Q #[Y Z 0 0] 25);rw[show(w.alloc (Q #[Y Z 0 0] 25)).heap.size=w.heap.size+1 by simp] at h2;exact h2
 go_enter Tryz.func47,Tryz.ntmps47;go_wp2_with fail;generalize (w.alloc (Q #[Y Z 0 0] 25)).alloc (Q #[Y Z 0 0] 25)=W0 at A0 kR kA ⊢;go_loopw [4] (fun v wr=>∃ (i:Nat) (ZB:Option Addr) (c5:Nat) (R:List DR),i<=n/\v=I J i/\R.length=i/\Hid (R.map (·.1)=(f.take i).map (bk S f))/\Hid (DRow wr (w.heap.size+2) (Y ZB i c5) R)/\Hid (wr.heap[w.heap.size+1]?=N (Q #[Y ZB i c5] 25 (0,0)))/\Hid (wr.heap[w.heap.size]?=N (Q #[Y Z 0 0] 25 (0,0)))/\Hid (Below w.heap.size w wr)) (fun v _=>n - (intOf v).toNat);case atStart=>exact⟨0,Z,0,[],by omega,rfl,rfl,rfl,ig _ _,kA,kR,A0⟩
 case round =>
  clear kA kR A0;obtain⟨i,ZB,c5,R,hi,rfl,QX,GV,D4,k4,qr,B4⟩:=hrel;have aq:=ae (IE.below B4 ly);have hw4:w.heap.size+2<=wr.heap.size:=ah k4.out;have h3:=aq.c3;have Iu:=aq.lt;by_cases Ji:i<n
  ·obtain⟨x,hx⟩:∃ x,f[i]?=N x:=⟨_,gq (by rw[<-HN.out];exact Ji)⟩
   obtain⟨j,m,hf,hm,e1,e2,e3,e4,e5⟩:=Ge I9 hx;have GQ:=aq.ror;have bt:=aq.rmd;rw[<-HN.out] at GQ;rw[<-mv.out] at bt;obtain⟨go,co',e⟩:=d9 GQ (by omega);simp only[I5,PR] at e;obtain⟨rfl,rfl⟩:=e;have hjN:j<QZ:=by rw[mv.out];exact(gM.1 hm).1
   obtain⟨F,cm',e⟩:=d9 bt (by omega);simp only[I5,PR] at e;obtain⟨rfl,rfl⟩:=e;have oc:wr.cell? (T go i Z)=N (U x.name):=(bB GQ (by rw[cu,IN,IN,hx];rfl)).1;have Jp:=(dq GQ).2;have ur:=(dq bt).2;have h2:=aq.c2;have GE:=aq.seen m (IF hm) e2;obtain⟨sa,Q0,He⟩:=eO GE;obtain⟨G,Ih⟩:∃ G,G=(dK x).code:=⟨_,rfl⟩
   obtain⟨t,th⟩:∃ t,t=(dK x).text:=⟨_,rfl⟩
   obtain⟨E,Hg⟩:∃ E,E=x.looks.length:=⟨_,rfl⟩
   rw[e5] at He GE;rw[He,<-Hg] at GE;have q0:wr.cell? (T F (j*6) Z)=N (U x.name):=by have:=bU (by rw[<-mv.out];exact bt) hm 0 (by omega) rfl;rw[e1] at this;exact this
   have q1:wr.cell? (T F (j*6+1) Z)=N (I J G):=by have:=bU (by rw[<-mv.out];exact bt) hm 1 (by omega) rfl;rw[e3,<-Ih] at this;exact this
   have q2:wr.cell? (T F (j*6+2) Z)=N (U t):=by have:=bU (by rw[<-mv.out];exact bt) hm 2 (by omega) rfl;rw[e4,<-th] at this;exact this
   have q3:wr.cell? (T F (j*6+3) Z)=N (Y Z 0 0):=bU (by rw[<-mv.out];exact bt) hm 3 (by omega) rfl;have q4:wr.cell? (T F (j*6+4) Z)=N (Y sa E Q0):=by have:=bU (by rw[<-mv.out];exact bt) hm 4 (by omega) rfl;rw[He,<-Hg] at this;exact this
   have q5:wr.cell? (T F (j*6+5) Z)=N (QT QR):=by have:=bU (by rw[<-mv.out];exact bt) hm 5 (by omega) rfl;rw[e2] at this;exact this
   have C:Hid (∀ V,Below wr.heap.size wr V->V.cell? (T hb 2 Z)=N (Y (N (T F 0 Z)) QZ cm)/\V.cell? (T hb 3 Z)=N (Y (N (T go 0 Z)) n co)/\V.cell? (T go i Z)=N (U x.name)/\V.cell? (T F (j*6) Z)=N (U x.name)/\V.cell? (T F (j*6+1) Z)=N (I J G)/\V.cell? (T F (j*6+2) Z)=N (U t)/\V.cell? (T F (j*6+3) Z)=N (Y Z 0 0)/\V.cell? (T F (j*6+4) Z)=N (Y sa E Q0)/\V.cell? (T F (j*6+5) Z)=N (QT QR)):=fun V y=>⟨(y.cell (p:=(T hb 2 Z)) Iu).trans h2,(y.cell (p:=(T hb 3 Z)) Iu).trans h3,(y.cell (p:=(T go i Z)) Jp).trans oc,(y.cell (p:=(T F _ Z)) ur).trans q0,(y.cell (p:=(T F _ Z)) ur).trans q1,(y.cell (p:=(T F _ Z)) ur).trans q2,(y.cell (p:=(T F _ Z)) ur).trans q3,(y.cell (p:=(T F _ Z)) ur).trans q4,(y.cell (p:=(T F _ Z)) ur).trans q5⟩
   have CT:Hid (∀ V,Below wr.heap.size wr V->Calls Tryz.prog 92 #[.pointer (N (T hb 0 Z)),U x.name] V fun e w'=>e=QU (I J (j:Int))/\w'=V):=fun V y=>by
    have h:=aq.below y ly;refine(uu V x.name B h.c2 h.rmd (by rw[<-mv.out];omega)).mono fun e w' ⟨he,hw⟩=>⟨?_,hw⟩
    rw[he,hf];rfl
   have HX:=ae hx;have Jk:=ae Ih;have IL:=ae th;have GD:=ae Hg;have Iq:=ae GE;have hj0:(0:Int)<=(j:Int):=by omega
   have hjI:(j:Int)<QZ:=by omega
   have hi0:(0:Int)<=(i:Int):=by omega
   have hiI:(i:Int)<n:=by omega
   clear GQ bt GE He hx hf hm e1 e2 e3 e4 e5 Ih th Hg;go_upto_region 5 with fail;go_cut [5] (fun s wx=>s=.pointer (N (T wr.heap.size 0 Z))/\wx=(wr.alloc (Q #[U x.name,I J G,U t,Y Z 0 0,Y sa E Q0,QT QR] 161)).drew);case first =>
    clear h2 h3 oc q0 q1 q2 q3 q4 q5
    go_region_held3 (fun V=>V.cell? (T hb 2 Z)=N (Y (N (T F 0 Z)) QZ cm)/\V.cell? (T hb 3 Z)=N (Y (N (T go 0 Z)) n co)/\V.cell? (T go i Z)=N (U x.name)/\V.cell? (T F (j*6) Z)=N (U x.name)/\V.cell? (T F (j*6+1) Z)=N (I J G)/\V.cell? (T F (j*6+2) Z)=N (U t)/\V.cell? (T F (j*6+3) Z)=N (Y Z 0 0)/\V.cell? (T F (j*6+4) Z)=N (Y sa E Q0)/\V.cell? (T F (j*6+5) Z)=N (QT QR)) (first | exact C _ br | exact C _ br.drew | exact C _ (br.drew.alloc ly _) | exact C _ (br.alloc ly _).drew | exact C _ ((((((((q9 wr).drew.alloc ly _).setCell ly _).setCell ly _).setCell ly _).setCell ly _).setCell ly _).setCell ly _)) (first
     | (go_at_call 92;refine(CT _ (by first | exact br.drew | exact eL _ _ | exact br.drew.alloc ly _)).mono ?_;rintro e w5 ⟨rfl,rfl⟩))
    all_goals
     go_wp2_with fail;go_meet;exact⟨rfl,rfl⟩
   case rest =>
   obtain⟨rfl,rfl⟩:=hcut;have B5:=ae ((q9 wr).alloc ly (Q #[U x.name,I J G,U t,Y Z 0 0,Y sa E Q0,QT QR] 161)).drew;have m5:Hid ((wr.alloc (Q #[U x.name,I J G,U t,Y Z 0 0,Y sa E Q0,QT QR] 161)).drew.heap[wr.heap.size]?=N (Q #[U x.name,I J G,U t,Y Z 0 0,Y sa E Q0,QT QR] 161 (0,0))):=cM wr _;have Hh:(wr.alloc (Q #[U x.name,I J G,U t,Y Z 0 0,Y sa E Q0,QT QR] 161)).drew.heap.size=wr.heap.size+1:=by simp[World.drew]
   clear h2 h3 oc q0 q1 q2 q3 q4 q5 C CT;generalize (wr.alloc (Q #[U x.name,I J G,U t,Y Z 0 0,Y sa E Q0,QT QR] 161)).drew=W5 at B5 m5 Hh ⊢;have p0:W5.cell? (T wr.heap.size 0 Z)=N (U x.name):=by simp[World.cell?,m5.out]
   have A6:=ae ((q9 W5).alloc ly (Q #[U x.name,I J 0,I J 0,U ⟨#[]⟩,Y Z 0 0,Y Z 0 0] 46));have B6:=ae (B5.trans (A6.mono B5.size));have X6:Hid (DBox (W5.alloc (Q #[U x.name,I J 0,I J 0,U ⟨#[]⟩,Y Z 0 0,Y Z 0 0] 46)) (wr.heap.size+1) (U x.name) (I J 0) (I J 0) (U ⟨#[]⟩) (Y Z 0 0) (Y Z 0 0)):=by have h:=oz W5 (U x.name) (I J 0) (I J 0) (U ⟨#[]⟩) (Y Z 0 0) (Y Z 0 0) 46;rw[Hh] at h;exact h
   have m6:Hid ((W5.alloc (Q #[U x.name,I J 0,I J 0,U ⟨#[]⟩,Y Z 0 0,Y Z 0 0] 46)).heap[wr.heap.size]?=N (Q #[U x.name,I J G,U t,Y Z 0 0,Y sa E Q0,QT QR] 161 (0,0))):=(A6.block _ (by omega)).trans m5;have IM:(W5.alloc (Q #[U x.name,I J 0,I J 0,U ⟨#[]⟩,Y Z 0 0,Y Z 0 0] 46)).heap.size=wr.heap.size+2:=by simp[Hh]
   go_upto_region 7 with fail;generalize W5.alloc (Q #[U x.name,I J 0,I J 0,U ⟨#[]⟩,Y Z 0 0,Y Z 0 0] 46)=W6 at A6 B6 X6 m6 IM ⊢;clear p0 B5 m5 A6 Hh;have GJ:=ae (aq.below B6 ly);have Hx:=ae (B4.trans (B6.mono (by omega)));have C:Hid (∀ V,Below W6.heap.size W6 V->V.cell? (T hb 0 Z)=N (Y a0 S.n0 c0)/\V.cell? (T hb 1 Z)=N (Y a1 S.n1 c1)/\V.cell? (T wr.heap.size 0 Z)=N (U x.name)):=fun V y=>⟨(y.cell (p:=(T hb 0 Z)) GJ.lt).trans GJ.c0,(y.cell (p:=(T hb 1 Z)) GJ.lt).trans GJ.c1,(y.cell (p:=(T wr.heap.size 0 Z)) (by show wr.heap.size<_;omega)).trans (by simp[World.cell?,m6.out])⟩
   obtain⟨Q2,hT⟩:∃ Q2,Q2=dv (atI (nm1 S.f1) S.n1 x.name):=⟨_,rfl⟩
   have CT:Hid (∀ V,Below W6.heap.size W6 V->Calls Tryz.prog 74 #[QV #[Y a0 S.n0 c0,Y a1 S.n1 c1],U x.name] V fun e w'=>e=QU (I J Q2)/\Below V.heap.size V w'):=fun V y=>by rw[hT];exact eS a0 S.n0 c0 a1 S.n1 c1 S.f1 x.name V (by have:=GO.small;omega) (V1.below (Hx.trans (y.mono Hx.size)) ly)
   have HT:=ae hT;clear hT
   go_region_held3 (fun V=>V.cell? (T hb 0 Z)=N (Y a0 S.n0 c0)/\V.cell? (T hb 1 Z)=N (Y a1 S.n1 c1)/\V.cell? (T wr.heap.size 0 Z)=N (U x.name)) (first | exact C _ br | exact C _ br.drew | exact C _ D7) (first
    | (go_at_call 74;refine(CT _ (by first | exact br.drew | exact eL _ _)).mono ?_;rintro e W ⟨rfl,DQ⟩;have D7:Hid (Below W6.heap.size W6 W):=⟨DQ.os,DQ.tape,DQ.output,DQ.size,DQ.block⟩;clear DQ))
   have B7:=ae (B6.trans (D7.mono B6.size));have X7:=ae (X6.below D7 X6.lt);have m7:=ae ((D7.block _ (ah m6)).trans m6);have ID:wr.heap.size+2<=W.heap.size:=by have:=D7.size;omega
   have k7:=ae ((B7.block _ (ah k4)).trans k4);have GF:=ae ((B7.block _ (ah qr)).trans qr);have ld:=ae (aq.below B7 ly);have Fn:=ae (B4.trans (B7.mono (by omega)));have Ho:=IF HX.out;have IP:=ae (Iw.ents x Ho);clear D7 C CT X6 m6 GJ Hx B6 IM Ho;rcases IP.kind with ⟨hk,n8,GS,si,It,Hc⟩ | ⟨hk,n8,Hc,GS,Ig,GP⟩ | ⟨hk,Ig,GP⟩
   ·have HK:=ae hk
    have Id:=ae n8;have Jq:=oh GO.out It;have Hl:Hid (t=x.text):=by show t=x.text;rw[IL.out];unfold dK;rw[eI (by omega)]
    have hsi0:(0:Int)<=(si:Int):=by omega
    clear hk n8 Hc;have C:Hid (∀ V,Below W.heap.size W V->V.cell? (T hb 0 Z)=N (Y a0 S.n0 c0)/\V.cell? (T hb 1 Z)=N (Y a1 S.n1 c1)/\V.cell? (T wr.heap.size 0 Z)=N (U x.name)):=fun V y=>⟨(y.cell (p:=(T hb 0 Z)) ld.lt).trans ld.c0,(y.cell (p:=(T hb 1 Z)) ld.lt).trans ld.c1,(y.cell (p:=(T wr.heap.size 0 Z)) (by show wr.heap.size<_;omega)).trans (by simp[World.cell?,m7.out])⟩
    have CT:Hid (∀ V,Below W.heap.size W V->Calls Tryz.prog 73 #[QV #[Y a0 S.n0 c0,Y a1 S.n1 c1],U x.name] V fun e w'=>e=QU (I J (si:Int))/\Below V.heap.size V w'):=fun V y=>by have h:=eu a0 S.n0 c0 a1 S.n1 c1 S.f0 x.name V (by have:=GO.small;omega) (V0.below (Fn.trans (y.mono Fn.size)) ly);rw[It] at h;exact h
    have GN:Q2=-1:=by rw[HT.out,Jq];rfl
    subst GN;go_wp2_with fail
    go_region_held3 (fun V=>V.cell? (T hb 0 Z)=N (Y a0 S.n0 c0)/\V.cell? (T hb 1 Z)=N (Y a1 S.n1 c1)/\V.cell? (T wr.heap.size 0 Z)=N (U x.name)) (first | exact C _ br | exact C _ br.drew | exact C _ D8) (first
     | (go_at_call 73;refine(CT _ (by first | exact br.drew | exact eL _ _)).mono ?_;rintro e w8 ⟨rfl,P⟩;have D8:Hid (Below W.heap.size W w8):=⟨P.os,P.tape,P.output,P.size,P.block⟩;clear P))
    have X8:=ae (X7.below D8 X7.lt);have k8:=ae ((D8.block _ (ah k7)).trans k7);have GK:=ae ((D8.block _ (ah GF)).trans GF);have B8:=ae (B7.trans (D8.mono B7.size));obtain⟨d1,GH⟩:=X8.c1;obtain⟨d3,Ic⟩:=X8.c3;have m8:=(D8.block _ (ah m7)).trans m7;have q2:w8.cell? (T wr.heap.size 2 Z)=N (U t):=by simp[World.cell?,m8]
    have O:Hid (DBox ((w8.setCell (T (wr.heap.size+1) 1 Z) (I J 1)).setCell (T (wr.heap.size+1) 3 Z) (U t)) (wr.heap.size+1) (U x.name) (I J x.kind) (I J x.code) (U x.text) (Y Z 0 0) (Y Z 0 0)):=by show DBox _ _ _ _ _ _ _ _;rw[HK.out,Id.out,<-Hl.out];exact(X8.set1 (I J 1)).set3 (U t)
    have ST:=ae (uE (S:=S) (made:=f) (x:=x) (by unfold cT;rw[eI (by rw[HK.out];decide)]) GS ((w8.setCell (T (wr.heap.size+1) 1 Z) (I J 1)).setCell (T (wr.heap.size+1) 3 Z) (U t)) wr.heap.size);have kT:Hid (((w8.setCell (T (wr.heap.size+1) 1 Z) (I J 1)).setCell (T (wr.heap.size+1) 3 Z) (U t)).heap[w.heap.size+1]?=_):=(qh _ _ _ _ (show w.heap.size+1≠wr.heap.size+1 by omega)).trans ((qh _ _ _ _ (show w.heap.size+1≠wr.heap.size+1 by omega)).trans k8.out);have fd:Hid (((w8.setCell (T (wr.heap.size+1) 1 Z) (I J 1)).setCell (T (wr.heap.size+1) 3 Z) (U t)).heap[w.heap.size]?=_):=(qh _ _ _ _ (show w.heap.size≠wr.heap.size+1 by omega)).trans ((qh _ _ _ _ (show w.heap.size≠wr.heap.size+1 by omega)).trans GK.out);have QY:=ae ((B8.setCell (p:=(T (wr.heap.size+1) 1 Z)) (vF _) (I J 1)).setCell (p:=(T (wr.heap.size+1) 3 Z)) (vF _) (U t));clear m8;go_upto_region 24 with fail;generalize ((w8.setCell (T (wr.heap.size+1) 1 Z) (I J 1)).setCell (T (wr.heap.size+1) 3 Z) (U t))=D at O ST kT fd QY ⊢;clear d1 GH d3 Ic q2 X8 k8 GK B8 D8 C CT;obtain⟨t0,_⟩:=O.c0;obtain⟨t1,_⟩:=O.c1;obtain⟨t2,_⟩:=O.c2;obtain⟨t3,_⟩:=O.c3;obtain⟨t4,_⟩:=O.c4;obtain⟨t5,_⟩:=O.c5;have kc:D.cell? (T (w.heap.size+1) 0 Z)=N (Y ZB i c5):=by simp[World.cell?,kT.out]
    have z:=ae ((q9 D).alloc ly (Q #[U x.name,I J x.kind,I J x.code,U x.text,Y Z 0 0,Y Z 0 0] 46));have DA:=ae (D4.below (QY.trans (z.mono QY.size)) ly);have SA:=ae (ST.below z ly);have kA:=ae ((z.block _ (ah kT)).trans kT);have ph:=ae ((z.block _ (ah fd)).trans fd);have BA:=ae (B4.trans ((QY.trans (z.mono QY.size)).mono (by omega)));have OW:Hid (World.ownsRow (D.alloc (Q #[U x.name,I J x.kind,I J x.code,U x.text,Y Z 0 0,Y Z 0 0] 46)) (w.heap.size+2) 46 6 (Y ZB i c5) i (R.flatMap ddV)):=by have h:=DA.own;rw[QX] at h;exact h
    have X:Hid (∀ j,(Value.slice ZB i c5).ownBlock=N j->w.heap.size+2<=j):=fun j e=>(OW.lt j e).1;have Hb:(D.alloc (Q #[U x.name,I J x.kind,I J x.code,U x.text,Y Z 0 0,Y Z 0 0] 46)).heap.size=D.heap.size+1:=by simp
    have IC:=QY.size;go_wp2_with (at_builtin;refine wC _ rfl (.tmp 121) (.tmp 123) 23 rfl (w.heap.size+2) 46 Im (QV #[U ⟨#[]⟩,I J 0,I J 0,U ⟨#[]⟩,Y Z 0 0,Y Z 0 0]) 6 96 Tryz.underlying23 H6 GY GW G8 rfl (by decide) (Y ZB i c5) i (R.flatMap ddV) (by simp[Act.eval]) OW.out (T D.heap.size 0 Z) 1 1 [U x.name,I J x.kind,I J x.code,U x.text,Y Z 0 0,Y Z 0 0] (by simp[Act.eval]) rfl (uD D _ _ _ _ _ _ _) (by simp[Value.oneCell']) (by unfold maxLen;omega) (by omega) (by omega) ?_;intro v' w9 o g _;obtain⟨K,M,rfl⟩:=eO o;have O9:=ae o;have G9:=ae g;have k9:=ae ((g.block _ (ah kA) (fun e=>by have:=X.out _ e.symm;omega)).trans kA);have g9:w9.cell? (T (w.heap.size+1) 0 Z)=N (Y ZB i c5):=(by simp[World.cell?,k9.out]);have f9:w9.frozen? (T (w.heap.size+1) 0 Z)=QQ:=(by simp[World.frozen?,k9.out]);have l9:=ah k9.out;clear o g);have D9:Hid (DRow w9 (w.heap.size+2) (Y K (i+1) M) (R++[(bk S f x,Y Z 0 0,Y Z 0 0)])):=DRow.more D4 DA (by omega) SA (by rw[QX];exact O9) G9;have GU:=ae ((G9.block _ (ah ph) (fun e=>by have:=X.out _ e.symm;omega)).trans ph);have B9:=ae (bg BA G9 (by omega) (fun j e=>by have:=X.out j e;omega));have GL:=ae (D9.set (p:=(T (w.heap.size+1) 0 Z)) (e:=25) (.inl (j2 _)) (Y K (i+1) M));have Fm:Hid ((w9.setCell (T (w.heap.size+1) 0 Z) (Y K (i+1) M)).heap[w.heap.size+1]?=N (Q #[Y K (i+1) M] 25 (0,0))):=aB k9 _;have sm:Hid ((w9.setCell (T (w.heap.size+1) 0 Z) (Y K (i+1) M)).heap[w.heap.size]?=N (Q #[Y Z 0 0] 25 (0,0))):=(qh _ _ _ _ (show w.heap.size≠w.heap.size+1 by omega)).trans GU.out;have GC:=ae (B9.setCell (p:=(T (w.heap.size+1) 0 Z)) (vF _) (Y K (i+1) M));refine⟨⟨i+1,K,M,_,by omega,by go_num,by rw[a8,QX];rfl,?_,GL,Fm,sm,GC⟩,by simp[intOf];omega⟩;show(R++[((bk S f x,Y Z 0 0,Y Z 0 0):DR)]).map (·.1)=_;rw[CV,GV.out,NL,HX.out];simp
   ·have HK:=ae hk
    have Id:=ae n8;have Jb:=ae Hc;clear hk n8 Hc;have C:Hid (∀ V,Below W.heap.size W V->V.cell? (T hb 0 Z)=N (Y a0 S.n0 c0)/\V.cell? (T hb 1 Z)=N (Y a1 S.n1 c1)/\V.cell? (T wr.heap.size 0 Z)=N (U x.name)):=fun V y=>⟨(y.cell (p:=(T hb 0 Z)) ld.lt).trans ld.c0,(y.cell (p:=(T hb 1 Z)) ld.lt).trans ld.c1,(y.cell (p:=(T wr.heap.size 0 Z)) (by show wr.heap.size<_;omega)).trans (by simp[World.cell?,m7.out])⟩
    have CT:Hid (∀ V,Below W.heap.size W V->Calls Tryz.prog 73 #[QV #[Y a0 S.n0 c0,Y a1 S.n1 c1],U x.name] V fun e w'=>e=QU (I J (-1))/\Below V.heap.size V w'):=fun V y=>by have h:=eu a0 S.n0 c0 a1 S.n1 c1 S.f0 x.name V (by have:=GO.small;omega) (V0.below (Fn.trans (y.mono Fn.size)) ly);rw[Ig] at h;exact h
    have GN:Q2=-1:=by rw[HT.out,GP];rfl
    subst GN;go_wp2_with fail
    go_region_held3 (fun V=>V.cell? (T hb 0 Z)=N (Y a0 S.n0 c0)/\V.cell? (T hb 1 Z)=N (Y a1 S.n1 c1)/\V.cell? (T wr.heap.size 0 Z)=N (U x.name)) (first | exact C _ br | exact C _ br.drew | exact C _ D8) (first
     | (go_at_call 73;refine(CT _ (by first | exact br.drew | exact eL _ _)).mono ?_;rintro e w8 ⟨rfl,P⟩;have D8:Hid (Below W.heap.size W w8):=⟨P.os,P.tape,P.output,P.size,P.block⟩;clear P))
    have X8:=ae (X7.below D8 X7.lt);have k8:=ae ((D8.block _ (ah k7)).trans k7);have GK:=ae ((D8.block _ (ah GF)).trans GF);have B8:=ae (B7.trans (D8.mono B7.size));obtain⟨d1,GH⟩:=X8.c1;have O:Hid (DBox (w8.setCell (T (wr.heap.size+1) 1 Z) (I J 2)) (wr.heap.size+1) (U x.name) (I J x.kind) (I J x.code) (U x.text) (Y Z 0 0) (Y Z 0 0)):=by show DBox _ _ _ _ _ _ _ _;rw[HK.out,Id.out,Jb.out];exact X8.set1 (I J 2)
    have ST:=ae (uE (S:=S) (made:=f) (x:=x) (by unfold cT;rw[eI (by rw[HK.out];decide)]) GS (w8.setCell (T (wr.heap.size+1) 1 Z) (I J 2)) wr.heap.size);have kT:Hid ((w8.setCell (T (wr.heap.size+1) 1 Z) (I J 2)).heap[w.heap.size+1]?=_):=(qh _ _ _ _ (by show w.heap.size+1≠wr.heap.size+1;omega)).trans k8;have fd:Hid ((w8.setCell (T (wr.heap.size+1) 1 Z) (I J 2)).heap[w.heap.size]?=_):=(qh _ _ _ _ (by show w.heap.size≠wr.heap.size+1;omega)).trans GK;have QY:=ae (B8.setCell (p:=(T (wr.heap.size+1) 1 Z)) (vF _) (I J 2));go_upto_region 24 with fail;generalize w8.setCell (T (wr.heap.size+1) 1 Z) (I J 2)=D at O ST kT fd QY ⊢;clear d1 GH X8 k8 GK B8 D8 C CT;obtain⟨t0,_⟩:=O.c0;obtain⟨t1,_⟩:=O.c1;obtain⟨t2,_⟩:=O.c2;obtain⟨t3,_⟩:=O.c3;obtain⟨t4,_⟩:=O.c4;obtain⟨t5,_⟩:=O.c5;have kc:D.cell? (T (w.heap.size+1) 0 Z)=N (Y ZB i c5):=by simp[World.cell?,kT.out]
    have z:=ae ((q9 D).alloc ly (Q #[U x.name,I J x.kind,I J x.code,U x.text,Y Z 0 0,Y Z 0 0] 46));have DA:=ae (D4.below (QY.trans (z.mono QY.size)) ly);have SA:=ae (ST.below z ly);have kA:=ae ((z.block _ (ah kT)).trans kT);have ph:=ae ((z.block _ (ah fd)).trans fd);have BA:=ae (B4.trans ((QY.trans (z.mono QY.size)).mono (by omega)));have OW:Hid (World.ownsRow (D.alloc (Q #[U x.name,I J x.kind,I J x.code,U x.text,Y Z 0 0,Y Z 0 0] 46)) (w.heap.size+2) 46 6 (Y ZB i c5) i (R.flatMap ddV)):=by have h:=DA.own;rw[QX] at h;exact h
    have X:Hid (∀ j,(Value.slice ZB i c5).ownBlock=N j->w.heap.size+2<=j):=fun j e=>(OW.lt j e).1;have Hb:(D.alloc (Q #[U x.name,I J x.kind,I J x.code,U x.text,Y Z 0 0,Y Z 0 0] 46)).heap.size=D.heap.size+1:=by simp
    have IC:=QY.size;go_wp2_with (at_builtin;refine wC _ rfl (.tmp 121) (.tmp 123) 23 rfl (w.heap.size+2) 46 Im (QV #[U ⟨#[]⟩,I J 0,I J 0,U ⟨#[]⟩,Y Z 0 0,Y Z 0 0]) 6 96 Tryz.underlying23 H6 GY GW G8 rfl (by decide) (Y ZB i c5) i (R.flatMap ddV) (by simp[Act.eval]) OW.out (T D.heap.size 0 Z) 1 1 [U x.name,I J x.kind,I J x.code,U x.text,Y Z 0 0,Y Z 0 0] (by simp[Act.eval]) rfl (uD D _ _ _ _ _ _ _) (by simp[Value.oneCell']) (by unfold maxLen;omega) (by omega) (by omega) ?_;intro v' w9 o g _;obtain⟨K,M,rfl⟩:=eO o;have O9:=ae o;have G9:=ae g;have k9:=ae ((g.block _ (ah kA) (fun e=>by have:=X.out _ e.symm;omega)).trans kA);have g9:w9.cell? (T (w.heap.size+1) 0 Z)=N (Y ZB i c5):=(by simp[World.cell?,k9.out]);have f9:w9.frozen? (T (w.heap.size+1) 0 Z)=QQ:=(by simp[World.frozen?,k9.out]);have l9:=ah k9.out;clear o g);have D9:Hid (DRow w9 (w.heap.size+2) (Y K (i+1) M) (R++[(bk S f x,Y Z 0 0,Y Z 0 0)])):=DRow.more D4 DA (by omega) SA (by rw[QX];exact O9) G9;have GU:=ae ((G9.block _ (ah ph) (fun e=>by have:=X.out _ e.symm;omega)).trans ph);have B9:=ae (bg BA G9 (by omega) (fun j e=>by have:=X.out j e;omega));have GL:=ae (D9.set (p:=(T (w.heap.size+1) 0 Z)) (e:=25) (.inl (j2 _)) (Y K (i+1) M));have Fm:Hid ((w9.setCell (T (w.heap.size+1) 0 Z) (Y K (i+1) M)).heap[w.heap.size+1]?=N (Q #[Y K (i+1) M] 25 (0,0))):=aB k9 _;have sm:Hid ((w9.setCell (T (w.heap.size+1) 0 Z) (Y K (i+1) M)).heap[w.heap.size]?=N (Q #[Y Z 0 0] 25 (0,0))):=(qh _ _ _ _ (show w.heap.size≠w.heap.size+1 by omega)).trans GU.out;have GC:=ae (B9.setCell (p:=(T (w.heap.size+1) 0 Z)) (vF _) (Y K (i+1) M));refine⟨⟨i+1,K,M,_,by omega,by go_num,by rw[a8,QX];rfl,?_,GL,Fm,sm,GC⟩,by simp[intOf];omega⟩;show(R++[((bk S f x,Y Z 0 0,Y Z 0 0):DR)]).map (·.1)=_;rw[CV,GV.out,NL,HX.out];simp
   ·have HK:=ae hk
    have Ie:dK x=⟨x.code,x.text,[]⟩:=by unfold dK;rw[eI (by omega)]
    have Hl:Hid (t=x.text/\G=x.code):=⟨by rw[IL.out,Ie],by rw[Jk.out,Ie]⟩
    have hns2:E<=200:=by rw[GD.out];exact IP.looks
    have Ib:=(bN GP).1;have GN:Q2=(x.tg:Int):=by rw[HT.out,GP];rfl
    have IA:cT S x=(S.f1 x.tg).actN:=by unfold cT;rw[gA hk]
    obtain⟨Q9,Hi⟩:∃ Q9,Q9=(S.f1 x.tg).actN:=⟨_,rfl⟩
    have Jo:Hid (cT S x=Q9):=IA.trans Hi.symm;have hn4m:Q9<=1048576:=by rw[Hi];exact Ja x.tg Ib
    have hn41:1<=Q9:=by obtain⟨_,hv,_⟩:=cJ (GO.act x.tg Ib);omega
    obtain⟨tb,tf,Jj,th⟩:=V1.resolve_left (by omega);subst GN Jj;obtain⟨-,ia,ic,Fk,IU⟩:=th.2 x.tg Ib;have Ip:=th.1;obtain⟨ib,io,rfl,Il⟩:=IU.resolve_left (by omega);rw[<-Hi] at Fk Il;have Jh:=ae Il;have Is:=ae Fk;clear hk Ie IA Hi Ig GP th IU Il Fk;have q1:W.cell? (T wr.heap.size 1 Z)=N (I J G):=by simp[World.cell?,m7.out]
    have q2:W.cell? (T wr.heap.size 2 Z)=N (U t):=by simp[World.cell?,m7.out]
    obtain⟨d1,GH⟩:=X7.c1;obtain⟨d2,Jw⟩:=X7.c2;obtain⟨d3,Ic⟩:=X7.c3;have Jc:=X7.lt;have htg0:(0:Int)<=(x.tg:Int):=by omega
    have X9:=ae (((X7.set1 (I J 3)).set2 (I J G)).set3 (U t));have m9:Hid ((((W.setCell (T (wr.heap.size+1) 1 Z) (I J 3)).setCell (T (wr.heap.size+1) 2 Z) (I J G)).setCell (T (wr.heap.size+1) 3 Z) (U t)).heap[wr.heap.size]?=N (Q #[U x.name,I J G,U t,Y Z 0 0,Y sa E Q0,QT QR] 161 (0,0))):=(qh _ _ _ _ (show wr.heap.size≠wr.heap.size+1 by omega)).trans ((qh _ _ _ _ (show wr.heap.size≠wr.heap.size+1 by omega)).trans ((qh _ _ _ _ (show wr.heap.size≠wr.heap.size+1 by omega)).trans m7.out));have B9:=ae (((B7.setCell (p:=(T (wr.heap.size+1) 1 Z)) (vF _) (I J 3)).setCell (p:=(T (wr.heap.size+1) 2 Z)) (vF _) (I J G)).setCell (p:=(T (wr.heap.size+1) 3 Z)) (vF _) (U t));have IX:wr.heap.size+2<=(((W.setCell (T (wr.heap.size+1) 1 Z) (I J 3)).setCell (T (wr.heap.size+1) 2 Z) (I J G)).setCell (T (wr.heap.size+1) 3 Z) (U t)).heap.size:=by simpa using ID
    go_upto_region 12 with fail;generalize (((W.setCell (T (wr.heap.size+1) 1 Z) (I J 3)).setCell (T (wr.heap.size+1) 2 Z) (I J G)).setCell (T (wr.heap.size+1) 3 Z) (U t))=W9 at X9 m9 B9 IX ⊢;clear d1 GH d2 Jw d3 Ic q1 q2 Jc X7 m7 B7 k7 GF ld Fn ID;have Hm:=ae (B4.trans (B9.mono (by omega)));have Hp:=ae (aq.below B9 ly);have Jr:=Hp.c1;have I7:=Hp.lt;have tc:=(Hm.cell (p:=(T tb (tf+x.tg*2+1) Z)) Ip).trans Is;have I8:tb<W9.heap.size:=lj Ip Hm.size;have htgI:(x.tg:Int)<(S.n1:Int):=by omega
    go_wp2_with fail;refine(iY ib io Q9 ic (S.f1 x.tg).act W9 (by omega) (Jh.below Hm ly)).mono ?_;rintro e Iv ⟨g4,c4,rfl,Ia,Fd⟩;have Hf:=ae (X9.below Fd X9.lt);obtain⟨d4,Js⟩:=Hf.c4;have Hu:=ae (Hf.set4 (Y (N (T g4 0 Z)) Q9 c4));have Ij:Hid ((Iv.setCell (T (wr.heap.size+1) 4 Z) (Y (N (T g4 0 Z)) Q9 c4)).heap[wr.heap.size]?=N (Q #[U x.name,I J G,U t,Y Z 0 0,Y sa E Q0,QT QR] 161 (0,0))):=(qh _ _ _ _ (show wr.heap.size≠wr.heap.size+1 by omega)).trans ((Fd.block _ (ah m9)).trans m9);have Hr:=ae (aS (R:=wr.heap.size+1) (j:=4) (aE Ia (show wr.heap.size+2<=W9.heap.size by omega)) (by omega) (Y (N (T g4 0 Z)) Q9 c4));have Io:=ae ((B9.trans (Fd.mono B9.size)).setCell (p:=(T (wr.heap.size+1) 4 Z)) (vF _) (Y (N (T g4 0 Z)) Q9 c4));have Ir:=Hf.lt;clear Ia Fd tc Jr;go_wp2;generalize Iv.setCell (T (wr.heap.size+1) 4 Z) (Y (N (T g4 0 Z)) Q9 c4)=W11 at Hu Ij Hr Io ⊢;clear d4 Js Hf Ir X9 m9 B9 Hm Hp I7 I8 IX;obtain⟨r,Je⟩:∃ r,r=wr:=⟨_,rfl⟩
    subst Je;go_loopw [8] (fun v wq=>∃ (k:Nat) (al:Option Addr) (cl:Nat),k<=E/\v=I J k/\Hid (DBox wq (r.heap.size+1) (U x.name) (I J 3) (I J G) (U t) (Y (N (T g4 0 Z)) Q9 c4) (Y al k cl))/\Hid (wq.heap[r.heap.size]?=N (Q #[U x.name,I J G,U t,Y Z 0 0,Y sa E Q0,QT QR] 161 (0,0)))/\Hid (wq.ownsRow (r.heap.size+2) 146 3 (Y (N (T g4 0 Z)) Q9 c4) Q9 (cF (S.f1 x.tg).act Q9))/\Hid (wq.ownsRow (r.heap.size+2) 129 4 (Y al k cl) k (lkV f (x.looks.take k)))/\Hid (Below r.heap.size r wq)) (fun v _=>E - (intOf v).toNat);case atStart=>exact⟨0,Z,0,by omega,rfl,Hu,Ij,Hr,CP _ _ _ _,Io⟩
    case round =>
     clear Hu Ij Hr Io;obtain⟨k,al,cl,hk,rfl,Hk,Hy,Hv,Ii,ro⟩:=hrel;have m4:wr.cell? (T r.heap.size 4 Z)=N (Y sa E Q0):=by simp[World.cell?,Hy.out]
     have ml:=ah Hy.out;have hz12:r.heap.size+2<=wr.heap.size:=Hk.lt;by_cases GS:k<E
     ·obtain⟨l,hl⟩:∃ l,x.looks[k]?=N l:=⟨_,gq (by rw[<-GD.out];exact GS)⟩
      obtain⟨sg,sc',e⟩:=d9 Iq (by omega);simp only[I5,PR] at e;obtain⟨rfl,rfl⟩:=e;have II:=(dq Iq).2;have sn:∀ j,j<3->∀ u,[Value.string l.name,QT l.ask,QT l.has][j]?=N u->wr.cell? (T sg (k*3+j) Z)=N u:=fun j hj u hu=>(ro.cell (p:=(T sg (k*3+j) Z)) II).trans (AJ (by have h:=Iq.out;rw[GD.out] at h;exact h) hl j hj hu);have f0:=sn 0 (by omega) _ rfl;have f1:=sn 1 (by omega) _ rfl;have f2:=sn 2 (by omega) _ rfl;rw[show k*3+0=k*3 by omega] at f0;have Ha:sg<wr.heap.size:=lj II ro.size;have HL:=ae hl;have C:Hid (∀ V,Below wr.heap.size wr V->V.cell? (T r.heap.size 4 Z)=N (Y (N (T sg 0 Z)) E Q0)/\V.cell? (T sg (k*3) Z)=N (U l.name)/\V.cell? (T sg (k*3+1) Z)=N (QT l.ask)/\V.cell? (T sg (k*3+2) Z)=N (QT l.has)):=fun V y=>⟨(y.cell (p:=(T r.heap.size 4 Z)) ml).trans m4,(y.cell (p:=(T sg _ Z)) Ha).trans f0,(y.cell (p:=(T sg _ Z)) Ha).trans f1,(y.cell (p:=(T sg _ Z)) Ha).trans f2⟩
      have hk0:(0:Int)<=(k:Int):=by omega
      have hkI:(k:Int)<E:=by omega
      clear sn hl;go_upto_region 16 with fail;go_cut [9] (fun s wx=>s=.pointer (N (T wr.heap.size 0 Z))/\wx=(wr.alloc (Q #[U l.name,QT l.ask,QT l.has,I J 0] 129)).drew);case first =>
       clear m4 f0 f1 f2;go_region_held3 (fun V=>V.cell? (T r.heap.size 4 Z)=N (Y (N (T sg 0 Z)) E Q0)/\V.cell? (T sg (k*3) Z)=N (U l.name)/\V.cell? (T sg (k*3+1) Z)=N (QT l.ask)/\V.cell? (T sg (k*3+2) Z)=N (QT l.has)) (first | exact C _ br | exact C _ br.drew | exact C _ (br.drew.alloc ly _) | exact C _ (br.alloc ly _).drew | exact C _ ((((((q9 wr).drew.alloc ly _).setCell ly _).setCell ly _).setCell ly _).setCell ly _)) (fail);all_goals
        go_wp2_with fail;go_meet;exact⟨rfl,rfl⟩
      case rest =>
      obtain⟨rfl,rfl⟩:=hcut;have Bk:=ae ((q9 wr).alloc ly (Q #[U l.name,QT l.ask,QT l.has,I J 0] 129)).drew;have ZA:Hid ((wr.alloc (Q #[U l.name,QT l.ask,QT l.has,I J 0] 129)).drew.heap[wr.heap.size]?=N (Q #[U l.name,QT l.ask,QT l.has,I J 0] 129 (0,0))):=cM wr _;clear m4 f0 f1 f2 C;generalize (wr.alloc (Q #[U l.name,QT l.ask,QT l.has,I J 0] 129)).drew=A at Bk ZA ⊢;have At:=ae (Hk.below Bk Hk.lt);have Hj:=ae ((Bk.block _ ml).trans Hy);have IZ:=ae (own_below Hv Bk ly);have IY:=ae (own_below Ii Bk ly);have DE:=ae (ro.trans (Bk.mono ro.size));have k1:A.cell? (T wr.heap.size 1 Z)=N (QT l.ask):=by simp[World.cell?,ZA.out]
      go_upto_if 94 with fail;clear k1;cases hask:l.ask with
      | false =>
       have Hz:Hid (dV (lkD f l)=[U l.name,QT QQ,QT l.has,I J 0]):=by show _=_;simp[dV,lkD,hask]
       rw[hask] at ZA;have l0:A.cell? (T wr.heap.size 0 Z)=N (U l.name):=by simp[World.cell?,ZA.out]
       have l1:A.cell? (T wr.heap.size 1 Z)=N (QT QQ):=by simp[World.cell?,ZA.out]
       have l2:A.cell? (T wr.heap.size 2 Z)=N (QT l.has):=by simp[World.cell?,ZA.out]
       have l3:A.cell? (T wr.heap.size 3 Z)=N (I J 0):=by simp[World.cell?,ZA.out]
       have ll:=ah ZA.out;obtain⟨e5,Jl⟩:=At.c5;have z:=ae ((q9 A).alloc ly (Q #[U l.name,QT QQ,QT l.has,I J 0] 129));have XA:=ae (At.below z At.lt);have mA:=ae ((z.block _ (ah Hj)).trans Hj);have OA:=ae (own_below IZ z ly);have PA:=ae (own_below IY z ly);have BA:=ae (DE.trans (z.mono DE.size));have Hb:(A.alloc (Q #[U l.name,QT QQ,QT l.has,I J 0] 129)).heap.size=A.heap.size+1:=by simp
       have Jm:r.heap.size+2<=A.heap.size:=At.lt;go_wp2_with (at_builtin;refine wC _ rfl (.tmp 101) (.tmp 103) 44 rfl (r.heap.size+2) 129 il (QV #[U ⟨#[]⟩,QT QQ,QT QQ,I J 0]) 4 32 Tryz.underlying44 IW HU Hw Hq rfl (by decide) (Y al k cl) k (lkV f (x.looks.take k)) (by simp[Act.eval]) PA.out (T A.heap.size 0 Z) 1 1 [U l.name,QT QQ,QT l.has,I J 0] (by simp[Act.eval]) rfl (wT A _ _ _ _ _) (by simp[Value.oneCell']) (by unfold maxLen;omega) (by omega) (by omega) ?_;intro v' wz o g _;obtain⟨az,cz,rfl⟩:=eO o;rw[<-Hz.out,<-uC f x.looks HL.out] at o;have PZ:=ae o;have GZ:=ae g;have XZ:=ae (XA.grown PA g (j2 _));obtain⟨z5,Ju⟩:=XZ.c5;have zl:=XZ.lt;clear o g);have XY:=ae (XZ.set5 (Y az (k+1) cz));have mY:Hid ((wz.setCell (T (r.heap.size+1) 5 Z) (Y az (k+1) cz)).heap[r.heap.size]?=N (Q #[U x.name,I J G,U t,Y Z 0 0,Y (N (T sg 0 Z)) E Q0,QT QR] 161 (0,0))):=(qh _ _ _ _ (show r.heap.size≠r.heap.size+1 by omega)).trans ((GZ.block _ (ah mA) (fun e=>by have:=(PA.lt _ e.symm).1;omega)).trans mA);have OY:=ae (aS (R:=r.heap.size+1) (j:=5) (rS OA PA GZ (by decide)) (by omega) (Y az (k+1) cz));have PY:=ae (aS (R:=r.heap.size+1) (j:=5) PZ (by omega) (Y az (k+1) cz));have BY:=ae ((bg BA GZ (by omega) (fun j e=>by have:=(PA.lt j e).1;omega)).setCell (p:=(T (r.heap.size+1) 5 Z)) (vF _) (Y az (k+1) cz));exact⟨⟨k+1,az,cz,by omega,by go_num,XY,mY,OY,PY,BY⟩,by simp[intOf];omega⟩
      | true =>
       obtain⟨q,hq⟩:∃ q:Int,q=((jK f l.name:Nat):Int):=⟨_,rfl⟩
       have Hz:Hid (dV (lkD f l)=[U l.name,QT QR,QT l.has,I J q]):=by show _=_;simp[dV,lkD,hask,hq]
       have Iy:=ae ((DE.block _ (ah k4)).trans k4);have ac:A.cell? (T (w.heap.size+1) 0 Z)=N (Y ZB i c5):=by simp[World.cell?,Iy.out]
       have acl:=ah Iy.out;have Jv:A.cell? (T wr.heap.size 0 Z)=N (U l.name):=by simp[World.cell?,ZA.out]
       have CA:Hid (Calls Tryz.prog 93 #[QV #[Y ZB i c5],U l.name] A fun e w'=>e=QU (I J q)/\Below A.heap.size A w'):=by
        have hd:SlDeed A ZB i (dF (R.map (·.1))):=by have h:=D4.below DE.out ly;rw[<-QX] at h ⊢;exact h.deeds
        have h:=AV ZB i c5 (dF (R.map (·.1))) l.name A (by omega) hd;rw[DO Iw.out HX.out (IF HL.out) hask GV.out,<-hq] at h;exact h
       rw[hask] at ZA;clear hq;go_wp2_with fail;refine CA.mono ?_;rintro e GI ⟨rfl,la⟩;have GT:=(la.block _ (ah ZA)).trans ZA;have q3:GI.cell? (T wr.heap.size 3 Z)=N (I J 0):=by simp[World.cell?,GT]
       have Jt:GI.frozen? (T wr.heap.size 3 Z)=QQ:=by simp[World.frozen?,GT]
       have Jn:=ah GT;have n9:Hid ((GI.setCell (T wr.heap.size 3 Z) (I J q)).heap[wr.heap.size]?=N (Q #[U l.name,QT QR,QT l.has,I J q] 129 (0,0))):=aB GT _;have GM:=ae ((At.below la At.lt).far (p:=(T wr.heap.size 3 Z)) (by show wr.heap.size≠r.heap.size+1;omega) (I J q));have Ik:Hid ((GI.setCell (T wr.heap.size 3 Z) (I J q)).heap[r.heap.size]?=N (Q #[U x.name,I J G,U t,Y Z 0 0,Y (N (T sg 0 Z)) E Q0,QT QR] 161 (0,0))):=(qh _ _ _ _ (show r.heap.size≠wr.heap.size by omega)).trans ((la.block _ (ah Hj)).trans Hj);have IJ:=ae (aA (own_below IZ la ly) (b:=wr.heap.size) (fun e=>by have:=(Hv.lt _ e).2;omega) 3 (I J q));have IK:=ae (aA (own_below IY la ly) (b:=wr.heap.size) (fun e=>by have:=(Ii.lt _ e).2;omega) 3 (I J q));have Hn:=ae ((DE.trans (la.mono DE.size)).setCell (p:=(T wr.heap.size 3 Z)) (by show r.heap.size<=wr.heap.size;omega) (I J q));clear GT la ac Jv;go_upto_region 19 with fail;generalize GI.setCell (T wr.heap.size 3 Z) (I J q)=QW at n9 GM Ik IJ IK Hn ⊢;clear q3 Jt Jn;have l0:QW.cell? (T wr.heap.size 0 Z)=N (U l.name):=by simp[World.cell?,n9.out]
       have l1:QW.cell? (T wr.heap.size 1 Z)=N (QT QR):=by simp[World.cell?,n9.out]
       have l2:QW.cell? (T wr.heap.size 2 Z)=N (QT l.has):=by simp[World.cell?,n9.out]
       have l3:QW.cell? (T wr.heap.size 3 Z)=N (I J q):=by simp[World.cell?,n9.out]
       have ll:=ah n9.out;obtain⟨e5,Jl⟩:=GM.c5;have z:=ae ((q9 QW).alloc ly (Q #[U l.name,QT QR,QT l.has,I J q] 129));have XA:=ae (GM.below z GM.lt);have mA:=ae ((z.block _ (ah Ik)).trans Ik);have OA:=ae (own_below IJ z ly);have PA:=ae (own_below IK z ly);have BA:=ae (Hn.trans (z.mono Hn.size));have Hb:(QW.alloc (Q #[U l.name,QT QR,QT l.has,I J q] 129)).heap.size=QW.heap.size+1:=by simp
       have Jm:r.heap.size+2<=QW.heap.size:=GM.lt;go_wp2_with (at_builtin;refine wC _ rfl (.tmp 101) (.tmp 103) 44 rfl (r.heap.size+2) 129 il (QV #[U ⟨#[]⟩,QT QQ,QT QQ,I J 0]) 4 32 Tryz.underlying44 IW HU Hw Hq rfl (by decide) (Y al k cl) k (lkV f (x.looks.take k)) (by simp[Act.eval]) PA.out (T QW.heap.size 0 Z) 1 1 [U l.name,QT QR,QT l.has,I J q] (by simp[Act.eval]) rfl (wT QW _ _ _ _ _) (by simp[Value.oneCell']) (by unfold maxLen;omega) (by omega) (by omega) ?_;intro v' wz o g _;obtain⟨az,cz,rfl⟩:=eO o;rw[<-Hz.out,<-uC f x.looks HL.out] at o;have PZ:=ae o;have GZ:=ae g;have XZ:=ae (XA.grown PA g (j2 _));obtain⟨z5,Ju⟩:=XZ.c5;have zl:=XZ.lt;clear o g);have XY:=ae (XZ.set5 (Y az (k+1) cz));have mY:Hid ((wz.setCell (T (r.heap.size+1) 5 Z) (Y az (k+1) cz)).heap[r.heap.size]?=N (Q #[U x.name,I J G,U t,Y Z 0 0,Y (N (T sg 0 Z)) E Q0,QT QR] 161 (0,0))):=(qh _ _ _ _ (show r.heap.size≠r.heap.size+1 by omega)).trans ((GZ.block _ (ah mA) (fun e=>by have:=(PA.lt _ e.symm).1;omega)).trans mA);have OY:=ae (aS (R:=r.heap.size+1) (j:=5) (rS OA PA GZ (by decide)) (by omega) (Y az (k+1) cz));have PY:=ae (aS (R:=r.heap.size+1) (j:=5) PZ (by omega) (Y az (k+1) cz));have BY:=ae ((bg BA GZ (by omega) (fun j e=>by have:=(PA.lt j e).1;omega)).setCell (p:=(T (r.heap.size+1) 5 Z)) (vF _) (Y az (k+1) cz));exact⟨⟨k+1,az,cz,by omega,by go_num,XY,mY,OY,PY,BY⟩,by simp[intOf];omega⟩
     ·have e:k=E:=by omega
      subst e;have O:Hid (DBox wr (r.heap.size+1) (U x.name) (I J x.kind) (I J x.code) (U x.text) (Y (N (T g4 0 Z)) Q9 c4) (Y al k cl)):=by show DBox _ _ _ _ _ _ _ _;rw[HK.out,<-Hl.1,<-Hl.2];exact Hk
      have ST:Hid (DSub wr r.heap.size (bk S f x,Y (N (T g4 0 Z)) Q9 c4,Y al k cl)):=by
       refine⟨?_,?_⟩
       ·show World.ownsRow wr r.heap.size 146 3 (Y (N (T g4 0 Z)) Q9 c4) (cT S x) (cF (S.f1 x.tg).act (cT S x))
        rw[Jo.out];exact aE Hv (by omega)
       ·show World.ownsRow wr r.heap.size 129 4 (Y al k cl) x.looks.length (bZ (lkF f x.looks) x.looks.length)
        rw[Fo,<-GD.out];have h:=Ii.out;rw[J6 (by rw[<-GD.out];exact j5 _)] at h;exact aE h (by omega)
      have kT:=ae ((ro.block _ (ah k4)).trans k4);have fd:=ae ((ro.block _ (ah qr)).trans qr);have QY:=ro;go_upto_region 24 with fail;clear m4;obtain⟨D,Jg⟩:∃ D,D=wr:=⟨_,rfl⟩
      subst Jg;obtain⟨t0,_⟩:=O.c0;obtain⟨t1,_⟩:=O.c1;obtain⟨t2,_⟩:=O.c2;obtain⟨t3,_⟩:=O.c3;obtain⟨t4,_⟩:=O.c4;obtain⟨t5,_⟩:=O.c5;have kc:D.cell? (T (w.heap.size+1) 0 Z)=N (Y ZB i c5):=by simp[World.cell?,kT.out]
      have z:=ae ((q9 D).alloc ly (Q #[U x.name,I J x.kind,I J x.code,U x.text,Y (N (T g4 0 Z)) Q9 c4,Y al k cl] 46));have DA:=ae (D4.below (QY.trans (z.mono QY.size)) ly);have SA:=ae (ST.below z ly);have kA:=ae ((z.block _ (ah kT)).trans kT);have ph:=ae ((z.block _ (ah fd)).trans fd);have BA:=ae (B4.trans ((QY.trans (z.mono QY.size)).mono (by omega)));have OW:Hid (World.ownsRow (D.alloc (Q #[U x.name,I J x.kind,I J x.code,U x.text,Y (N (T g4 0 Z)) Q9 c4,Y al k cl] 46)) (w.heap.size+2) 46 6 (Y ZB i c5) i (R.flatMap ddV)):=by have h:=DA.own;rw[QX] at h;exact h
      have X:Hid (∀ j,(Value.slice ZB i c5).ownBlock=N j->w.heap.size+2<=j):=fun j e=>(OW.lt j e).1;have Hb:(D.alloc (Q #[U x.name,I J x.kind,I J x.code,U x.text,Y (N (T g4 0 Z)) Q9 c4,Y al k cl] 46)).heap.size=D.heap.size+1:=by simp
      have IC:=QY.size;go_wp2_with (at_builtin;refine wC _ rfl (.tmp 121) (.tmp 123) 23 rfl (w.heap.size+2) 46 Im (QV #[U ⟨#[]⟩,I J 0,I J 0,U ⟨#[]⟩,Y Z 0 0,Y Z 0 0]) 6 96 Tryz.underlying23 H6 GY GW G8 rfl (by decide) (Y ZB i c5) i (R.flatMap ddV) (by simp[Act.eval]) OW.out (T D.heap.size 0 Z) 1 1 [U x.name,I J x.kind,I J x.code,U x.text,Y (N (T g4 0 Z)) Q9 c4,Y al k cl] (by simp[Act.eval]) rfl (uD D _ _ _ _ _ _ _) (by simp[Value.oneCell']) (by unfold maxLen;omega) (by omega) (by omega) ?_;intro v' w9 o g _;obtain⟨K,M,rfl⟩:=eO o;have O9:=ae o;have G9:=ae g;have k9:=ae ((g.block _ (ah kA) (fun e=>by have:=X.out _ e.symm;omega)).trans kA);have g9:w9.cell? (T (w.heap.size+1) 0 Z)=N (Y ZB i c5):=(by simp[World.cell?,k9.out]);have f9:w9.frozen? (T (w.heap.size+1) 0 Z)=QQ:=(by simp[World.frozen?,k9.out]);have l9:=ah k9.out;clear o g);have D9:Hid (DRow w9 (w.heap.size+2) (Y K (i+1) M) (R++[(bk S f x,Y (N (T g4 0 Z)) Q9 c4,Y al k cl)])):=DRow.more D4 DA (by omega) SA (by rw[QX];exact O9) G9;have GU:=ae ((G9.block _ (ah ph) (fun e=>by have:=X.out _ e.symm;omega)).trans ph);have B9:=ae (bg BA G9 (by omega) (fun j e=>by have:=X.out j e;omega));have GL:=ae (D9.set (p:=(T (w.heap.size+1) 0 Z)) (e:=25) (.inl (j2 _)) (Y K (i+1) M));have Fm:Hid ((w9.setCell (T (w.heap.size+1) 0 Z) (Y K (i+1) M)).heap[w.heap.size+1]?=N (Q #[Y K (i+1) M] 25 (0,0))):=aB k9 _;have sm:Hid ((w9.setCell (T (w.heap.size+1) 0 Z) (Y K (i+1) M)).heap[w.heap.size]?=N (Q #[Y Z 0 0] 25 (0,0))):=(qh _ _ _ _ (show w.heap.size≠w.heap.size+1 by omega)).trans GU.out;have GC:=ae (B9.setCell (p:=(T (w.heap.size+1) 0 Z)) (vF _) (Y K (i+1) M));refine⟨⟨i+1,K,M,_,by omega,by go_num,by rw[a8,QX];rfl,?_,GL,Fm,sm,GC⟩,by simp[intOf];omega⟩;show(R++[((bk S f x,Y (N (T g4 0 Z)) Q9 c4,Y al k cl):DR)]).map (·.1)=_;rw[CV,GV.out,NL,HX.out];simp
  ·have e:i=n:=by omega
   subst e;have Jf:wr.cell? (T w.heap.size 0 Z)=N (Y Z 0 0):=by simp[World.cell?,qr.out]
   have rf0:wr.frozen? (T w.heap.size 0 Z)=QQ:=by simp[World.frozen?,qr.out]
   have rl0:=ah qr.out;have ac0:wr.cell? (T (w.heap.size+1) 0 Z)=N (Y ZB i c5):=by simp[World.cell?,k4.out]
   have al0:=ah k4.out;go_wp2;refine bp (v:=QV #[Y ZB i c5]) (by simp[results,Tryz.results47,go_sem,Jf]) rfl ?_;subst QX;refine⟨ZB,c5,R,rfl,?_,?_,?_⟩
   ·exact(D4.set (p:=(T w.heap.size 0 Z)) (e:=25) (.inl (show w.heap.size<w.heap.size+2 by omega)) _).mono (by omega)
   ·rw[GV.out,J6 (by rw[<-HN.out];exact j5 _)]
    rfl
   ·exact B4.setCell (p:=(T w.heap.size 0 Z)) ly _
end
def uF (w:H)(S:Spc)(b:List Ent × jH)(e:Ending)(f:H):Prop:=∃ a c R g,e=QU (.tuple #[QV #[Y a R.length c],g])/\DRow f w.heap.size (Y a R.length c) R/\R.map (·.1)=aM S b.1/\pZ w f b.2 g/\Below w.heap.size w f
section
variable {S:Spc}{a0 a1:Option Addr}{c0 c1:Nat}
theorem uG (w:H)(nm:ByteArray)(u:SlSource w a0 S.n0 S.f0)(x:SlTarget w a1 S.n1 S.f1)(hn0:S.n0<=1048576)(hn1:S.n1<=1048576)(q:∀ i,i<S.n1->bP (S.f1 i))(Q9:∀ i,i<S.n1->∀ j,j<(S.f1 i).actN->((S.f1 i).act j).s.size<=maxLen)(l:¬ (bw S.n0 S.f0 S.n1 S.f1=0/\av nm=QR)):Calls Tryz.prog 11 #[QV #[Y a0 S.n0 c0,Y a1 S.n1 c1],U nm] w fun e Q0=>uF w S ([],⟨9,⟨#[]⟩,[]⟩) e Q0:=by
 have g:=ae ((((q9 w).alloc ly (Q #[Y a0 S.n0 c0,Y a1 S.n1 c1] 29)).alloc (by simp) (Q #[Y Z 0 0] 25)).alloc (by simp<;>omega) (Q #[I J 0,U ⟨#[]⟩,Y Z 0 0] 37));have m:=ae (fs a0 S.n0 c0 S.f0 a1 S.n1 c1 S.f1 (((w.alloc (Q #[Y a0 S.n0 c0,Y a1 S.n1 c1] 29)).alloc (Q #[Y Z 0 0] 25)).alloc (Q #[I J 0,U ⟨#[]⟩,Y Z 0 0] 37)) (by omega) (by omega) (u.below g ly) (x.below g ly) q Q9);have n:Hid ((((w.alloc (Q #[Y a0 S.n0 c0,Y a1 S.n1 c1] 29)).alloc (Q #[Y Z 0 0] 25)).alloc (Q #[I J 0,U ⟨#[]⟩,Y Z 0 0] 37)).heap[w.heap.size+1]?=N (Q #[Y Z 0 0] 25 (0,0))):=by have h2:=cM (w.alloc (Q #[Y a0 S.n0 c0,Y a1 S.n1 c1] 29)) (Q #[Y Z 0 0] 25);rw[show(w.alloc (Q #[Y a0 S.n0 c0,Y a1 S.n1 c1] 29)).heap.size=w.heap.size+1 by simp] at h2;exact(((eL (w.heap.size+2) _).alloc (by simp) _).block (w.heap.size+1) (by omega)).trans h2
 have o:Hid ((((w.alloc (Q #[Y a0 S.n0 c0,Y a1 S.n1 c1] 29)).alloc (Q #[Y Z 0 0] 25)).alloc (Q #[I J 0,U ⟨#[]⟩,Y Z 0 0] 37)).heap[w.heap.size+1+1]?=N (Q #[I J 0,U ⟨#[]⟩,Y Z 0 0] 37 (0,0))):=by have h2:=cM ((w.alloc (Q #[Y a0 S.n0 c0,Y a1 S.n1 c1] 29)).alloc (Q #[Y Z 0 0] 25)) (Q #[I J 0,U ⟨#[]⟩,Y Z 0 0] 37);rw[show((w.alloc (Q #[Y a0 S.n0 c0,Y a1 S.n1 c1] 29)).alloc (Q #[Y Z 0 0] 25)).heap.size=w.heap.size+1+1 by simp] at h2;exact h2
 obtain⟨D,z⟩:∃ D,D=bw S.n0 S.f0 S.n1 S.f1:=⟨_,rfl⟩
 rw[<-z] at m l;have M:=ae l;clear u x q Q9 z l hn0 hn1;by_cases ZB:D=0
 ·have O:Hid (av nm=QQ):=by
   cases h:av nm with
   | false=>rfl
   | true=>exact absurd ⟨ZB,h⟩ M
  subst ZB;go_enter Tryz.func11,Tryz.ntmps11;go_wp2_with fail;generalize ((w.alloc (Q #[Y a0 S.n0 c0,Y a1 S.n1 c1] 29)).alloc (Q #[Y Z 0 0] 25)).alloc (Q #[I J 0,U ⟨#[]⟩,Y Z 0 0] 37)=P at g m n o ⊢;refine m.mono ?_;clear m;rintro e r ⟨rfl,b⟩;have L:=ae (g.trans (b.mono g.size));have t:=ae ((b.block _ (ah n)).trans n);have y:=ae ((b.block _ (ah o)).trans o);clear b;go_wp2_with fail;refine(cY nm r).mono ?_;rintro e K ⟨E,b⟩;rw[O.out] at E;subst E;have B:=ae (L.trans (b.mono L.size));have c:=(b.block _ (ah t)).trans t;obtain⟨rl,r0,r1,A,f⟩:=aU ((b.block _ (ah y)).trans y);have ZA:=f 0;have G:=f 1;have QZ:=f 2;have C:K.cell? (T (w.heap.size+1) 0 Z)=N (Y Z 0 0):=by simp[World.cell?,c]
  have F:K.frozen? (T (w.heap.size+1) 0 Z)=QQ:=by simp[World.frozen?,c]
  have R:=ah c;clear f b c;go_wp2_with fail;refine bp (v:=.tuple #[QV #[Y Z 0 0],QV #[I J 9,U ⟨#[]⟩,Y Z 0 0]]) (by simp[results,Tryz.results11,go_sem,C,r0,r1,A]) rfl ⟨Z,0,[],_,rfl,ig _ _,rfl,rR _ _ _ _,?_⟩;exact(((B.setCell (p:=(T (w.heap.size+1) 0 Z)) (vF _) _).setCell (p:=(T (w.heap.size+1+1) 0 Z)) (by show w.heap.size<=w.heap.size+1+1;omega) _).setCell (p:=(T (w.heap.size+1+1) 1 Z)) (by show w.heap.size<=w.heap.size+1+1;omega) _).setCell (p:=(T (w.heap.size+1+1) 2 Z)) (by show w.heap.size<=w.heap.size+1+1;omega) _
 ·go_enter Tryz.func11,Tryz.ntmps11
  go_wp2_with fail;generalize ((w.alloc (Q #[Y a0 S.n0 c0,Y a1 S.n1 c1] 29)).alloc (Q #[Y Z 0 0] 25)).alloc (Q #[I J 0,U ⟨#[]⟩,Y Z 0 0] 37)=P at g m n o ⊢;refine m.mono ?_;clear m;rintro e r ⟨rfl,b⟩;have B:=ae (g.trans (b.mono g.size));have c:=(b.block _ (ah n)).trans n;obtain⟨rl,r0,r1,A,f⟩:=aU ((b.block _ (ah o)).trans o);have ZA:=f 0;have G:=f 1;have QZ:=f 2;have C:r.cell? (T (w.heap.size+1) 0 Z)=N (Y Z 0 0):=by simp[World.cell?,c]
  have F:r.frozen? (T (w.heap.size+1) 0 Z)=QQ:=by simp[World.frozen?,c]
  have R:=ah c;clear f b c;go_wp2_with fail;refine bp (v:=.tuple #[QV #[Y Z 0 0],QV #[I J 9,U ⟨#[]⟩,Y Z 0 0]]) (by simp[results,Tryz.results11,go_sem,C,r0,r1,A]) rfl ⟨Z,0,[],_,rfl,ig _ _,rfl,rR _ _ _ _,?_⟩;exact(((B.setCell (p:=(T (w.heap.size+1) 0 Z)) (vF _) _).setCell (p:=(T (w.heap.size+1+1) 0 Z)) (by show w.heap.size<=w.heap.size+1+1;omega) _).setCell (p:=(T (w.heap.size+1+1) 1 Z)) (by show w.heap.size<=w.heap.size+1+1;omega) _).setCell (p:=(T (w.heap.size+1+1) 2 Z)) (by show w.heap.size<=w.heap.size+1+1;omega) _
theorem vP (w:H)(nm:ByteArray)(ld:SlSource w a0 S.n0 S.f0)(mv:SlTarget w a1 S.n1 S.f1)(hn0:S.n0<=1048576)(hn1:S.n1<=1048576)(QX:∀ i,i<S.n1->bP (S.f1 i))(hs:∀ i,i<S.n1->∀ j,j<(S.f1 i).actN->((S.f1 i).act j).s.size<=maxLen)(h1:bw S.n0 S.f0 S.n1 S.f1=0)(h2:av nm=QR):Calls Tryz.prog 11 #[QV #[Y a0 S.n0 c0,Y a1 S.n1 c1],U nm] w fun e w'=>uF w S (aG S nm) e w':=by
 have A0:=ae ((((q9 w).alloc ly (Q #[Y a0 S.n0 c0,Y a1 S.n1 c1] 29)).alloc (by simp) (Q #[Y Z 0 0] 25)).alloc (by simp<;>omega) (Q #[I J 0,U ⟨#[]⟩,Y Z 0 0] 37));have HC:=ae (fs a0 S.n0 c0 S.f0 a1 S.n1 c1 S.f1 (((w.alloc (Q #[Y a0 S.n0 c0,Y a1 S.n1 c1] 29)).alloc (Q #[Y Z 0 0] 25)).alloc (Q #[I J 0,U ⟨#[]⟩,Y Z 0 0] 37)) (by omega) (by omega) (ld.below A0 ly) (mv.below A0 ly) QX hs);have kA:Hid ((((w.alloc (Q #[Y a0 S.n0 c0,Y a1 S.n1 c1] 29)).alloc (Q #[Y Z 0 0] 25)).alloc (Q #[I J 0,U ⟨#[]⟩,Y Z 0 0] 37)).heap[w.heap.size+1]?=N (Q #[Y Z 0 0] 25 (0,0))):=by have h2:=cM (w.alloc (Q #[Y a0 S.n0 c0,Y a1 S.n1 c1] 29)) (Q #[Y Z 0 0] 25);rw[show(w.alloc (Q #[Y a0 S.n0 c0,Y a1 S.n1 c1] 29)).heap.size=w.heap.size+1 by simp] at h2;exact(((eL (w.heap.size+2) _).alloc (by simp) _).block (w.heap.size+1) (by omega)).trans h2
 have kR:Hid ((((w.alloc (Q #[Y a0 S.n0 c0,Y a1 S.n1 c1] 29)).alloc (Q #[Y Z 0 0] 25)).alloc (Q #[I J 0,U ⟨#[]⟩,Y Z 0 0] 37)).heap[w.heap.size+1+1]?=N (Q #[I J 0,U ⟨#[]⟩,Y Z 0 0] 37 (0,0))):=by have h2:=cM ((w.alloc (Q #[Y a0 S.n0 c0,Y a1 S.n1 c1] 29)).alloc (Q #[Y Z 0 0] 25)) (Q #[I J 0,U ⟨#[]⟩,Y Z 0 0] 37);rw[show((w.alloc (Q #[Y a0 S.n0 c0,Y a1 S.n1 c1] 29)).alloc (Q #[Y Z 0 0] 25)).heap.size=w.heap.size+1+1 by simp] at h2;exact h2
 have kS:Hid ((((w.alloc (Q #[Y a0 S.n0 c0,Y a1 S.n1 c1] 29)).alloc (Q #[Y Z 0 0] 25)).alloc (Q #[I J 0,U ⟨#[]⟩,Y Z 0 0] 37)).heap[w.heap.size]?=N (Q #[Y a0 S.n0 c0,Y a1 S.n1 c1] 29 (0,0))) :=
  ((((eL (w.heap.size+1) _).alloc (by simp) _).alloc (by simp<;>omega) _).block w.heap.size (by omega)).trans (cM w _)
 have V0:=ae ld;have V1:=ae mv;have GM:=ae QX;have Fm:=ae (SpcOk.of h1);have H1:=ae h1;have H2:=ae h2;rw[h1] at HC;obtain⟨bb,Q2⟩:∃ bb,bb=aG S nm:=⟨_,rfl⟩
 obtain⟨la,o,-⟩:=pO S nm;rw[<-Q2] at la o ⊢;unfold aG at Q2;rw[gA ⟨h1,h2⟩] at Q2;have qr:=ae Q2;have GN:=ae la;have GK:=ae o;clear ld mv QX hs hn0 hn1 h1 h2 Q2 la o;go_enter Tryz.func11,Tryz.ntmps11;go_wp2_with fail;generalize ((w.alloc (Q #[Y a0 S.n0 c0,Y a1 S.n1 c1] 29)).alloc (Q #[Y Z 0 0] 25)).alloc (Q #[I J 0,U ⟨#[]⟩,Y Z 0 0] 37)=W0 at A0 HC kA kR kS ⊢;refine HC.mono ?_;clear HC;rintro e w1 ⟨rfl,y⟩;have B1:=ae (A0.trans (y.mono A0.size));have DE:=ae ((y.block _ (ah kA)).trans kA);have GI:=ae ((y.block _ (ah kR)).trans kR);have GJ:=ae ((y.block _ (ah kS)).trans kS);clear y;go_wp2_with fail;refine(cY nm w1).mono ?_;rintro e w2 ⟨he,y⟩;rw[H2.out] at he;subst he;have B2:=ae (B1.trans (y.mono B1.size));have GD:=ae ((y.block _ (ah DE)).trans DE);have GH:=ae ((y.block _ (ah GI)).trans GI);have n8:=ae ((y.block _ (ah GJ)).trans GJ);have hsl:w.heap.size<w2.heap.size:=ah n8.out;have q0:w2.cell? (T w.heap.size 0 Z)=N (Y a0 S.n0 c0):=by simp[World.cell?,n8.out]
 have q1:w2.cell? (T w.heap.size 1 Z)=N (Y a1 S.n1 c1):=by simp[World.cell?,n8.out]
 clear y;go_wp2_with fail;refine(vN w2 ⟨V0.below B2 ly,V1.below B2 ly,Fm⟩ nm H2).mono ?_;rintro e f ⟨hb,rfl,q,y⟩;have B3:=ae (B2.trans (y.mono B2.size));have n:=ae ((y.block _ (ah GD)).trans GD);have m:=ae ((y.block _ (ah GH)).trans GH);clear q0 q1 y;have O:w.heap.size<=f.heap.size:=B3.size;have C:=vO S 60 [] [] nm;rcases hl:aX S 60 [] [] nm with ⟨ZB,x⟩ | c | d
 ·rw[hl] at q
  obtain⟨r,u⟩:∃ r,r=dK x:=⟨_,rfl⟩
  have e:bb=(ZB,r):=by rw[qr.out,hl,u]
  subst e;obtain⟨L,md,or,st,g,Fk,GF,Fd,hrel⟩:=q;obtain⟨QZ,b0,b1,b2,b3,-,b5,W,b7,b8,-⟩:=g.facts;have GQ:Hid (ShAt w2.heap.size f hb (Y a0 S.n0 c0) (Y a1 S.n1 c1) md or L ZB):=⟨QZ,b0,b1,b2,b3,Fk,GF,Fd⟩
  have GL:=ae hrel;have fd:r.chain=[]:=by rw[u];unfold dK;split<;>rfl
  rw[<-u] at b5 W;have ph:=ae fd;have SQ:Hid (∀ V:H,V.heap[hb]?=f.heap[hb]?->V.cell? (T hb 5 Z)=N (I J r.code)/\V.cell? (T hb 6 Z)=N (U r.text)/\V.cell? (T hb 7 Z)=N (Y Z 0 0)):=fun V h=>⟨(cj (a:=(T hb 5 Z)) h).trans b5,(cj (a:=(T hb 6 Z)) h).trans W,(cj (a:=(T hb 7 Z)) h).trans b7⟩
  have P:hb≠w.heap.size+1:=fun e=>by have:=au g (e ▸ n.out);exact absurd this (by decide)
  have M:hb≠w.heap.size+1+1:=fun e=>by have:=au g (e ▸ m.out);exact absurd this (by decide)
  have CM:Hid (Calls Tryz.prog 47 #[.pointer (N (T hb 0 Z))] f.drew fun e w'=>∃ a c R,e=QU (QV #[Y a R.length c])/\DRow w' f.heap.size (Y a R.length c) R/\R.map (·.1)=aM S ZB/\Below f.heap.size f w'):=by have hd:Below f.heap.size f f.drew:=br.drew;have h:=yO w2.heap.size f.drew hb md or L ZB (GQ.below hd ly) GL GN GK (V0.below (B3.trans (hd.mono O)) ly) (V1.below (B3.trans (hd.mono O)) ly) Fm GM;exact h.mono fun e w' ⟨a,c,R,h1,h2,h3,h4⟩=>⟨a,c,R,h1,h2,h3,h4.os,h4.tape,h4.output,h4.size,h4.block⟩
  clear u fd hrel g Fk GF Fd b0 b1 b2 b3 hl C;go_wp2_with fail;refine wp_region_held_drew (S:=fun V=>V.cell? (T hb 5 Z)=N (I J r.code)/\V.cell? (T hb 6 Z)=N (U r.text)/\V.cell? (T hb 7 Z)=N (Y Z 0 0)) (by as_aux_lemma=>kernel_rfl) (SQ _ rfl) ?_;intro hS;have QY:=ae hS;clear hS b5 W b7 b8;refine aV 0 (v:=?_) rfl rfl (by as_aux_lemma=>kernel_rfl) (fun _ _ _ h=>h) rfl ?_ QY ?_;rotate_left
  ·(intro wz n9;obtain⟨s0,s1,s2⟩:=n9;go_simp)
   (try with_reducible rfl)
  (try simp only[Act.put,nzL])
  iterate 4
   refine aV 2 (v:=?_) rfl rfl (by as_aux_lemma=>kernel_rfl) (fun _ _ _ h=>h) rfl ?_ QY ?_;rotate_left
   ·(intro wz n9;obtain⟨s0,s1,s2⟩:=n9;go_simp)
    (try with_reducible rfl)
   (try simp only[Act.put,nzL])
  refine aD (i:=1) rfl (by as_aux_lemma=>kernel_rfl) (fun K ZA=>?_);go_simp;go_at_call 47;refine CM.mono ?_;rintro e w4 ⟨a5,c5,R,rfl,GC,At,Fn⟩;have D4:=ae GC;have M4:=ae At;have B4:=ae Fn;clear GC At Fn QY;have QY:=ae (SQ w4 (B4.block _ QZ));refine ZA _ _ QY ?_;clear ZA K
  (try simp only[Act.put,nzL])
  refine aD (i:=6) rfl (by as_aux_lemma=>kernel_rfl) (fun K ZA=>?_);go_simp;go_at_call 46;have CC:=mi w4 r Z 0 w4.heap.size (by rw[ph.out];exact⟨rfl,.inl ⟨rfl,rfl⟩⟩) (by rw[ph.out];exact AI _);rw[ph.out] at CC;refine CC.mono ?_;clear CC;rintro e Q9 ⟨rv,rfl,⟨z,A,rfl,G⟩,F⟩;have t:=ae G;have D:=ae F;have aq:f.heap.size<=w4.heap.size:=B4.size;have l:=(D.block _ (lj (ah n) aq)).trans ((B4.block _ (ah n)).trans n);have E:=(D.block _ (lj (ah m) aq)).trans ((B4.block _ (ah m)).trans m);obtain⟨rl,r0,r1,r2,B⟩:=aU E;have DQ:=B 0;have ur:=B 1;have GE:=B 2;have Q0:Q9.cell? (T (w.heap.size+1) 0 Z)=N (Y Z 0 0):=by simp[World.cell?,l]
  have th:Q9.frozen? (T (w.heap.size+1) 0 Z)=QQ:=by simp[World.frozen?,l]
  have pl:=ah l;have Bk:w.heap.size+1<f.heap.size:=ah n.out;have sm:w.heap.size+1+1<f.heap.size:=ah m.out;have bt:=(D.block hb (lj QZ aq)).trans (B4.block hb QZ);clear B l E QY G F;have QY:=ae (SQ Q9 bt);refine ZA _ _ QY ?_;clear ZA K
  (try simp only[Act.put,nzL])
  refine aD (i:=7) rfl (by as_aux_lemma=>kernel_rfl) (fun K ZA=>?_);go_simp;have GP:=ae (SQ (Q9.setCell (T (w.heap.size+1) 0 Z) (Y a5 R.length c5)) ((qh _ _ _ _ P).trans bt));refine ZA _ _ GP ?_;clear ZA K
  (try simp only[Act.put])
  have GO:=ae (SQ ((((Q9.setCell (T (w.heap.size+1) 0 Z) (Y a5 R.length c5)).setCell (T (w.heap.size+1+1) 0 Z) (I J r.code)).setCell (T (w.heap.size+1+1) 1 Z) (U r.text)).setCell (T (w.heap.size+1+1) 2 Z) (Y z r.chain.length A)) ((qh _ _ _ _ M).trans ((qh _ _ _ _ M).trans ((qh _ _ _ _ M).trans ((qh _ _ _ _ P).trans bt)))));refine aD (i:=8) rfl (by as_aux_lemma=>kernel_rfl) (fun K ZA=>?_);go_simp;refine ZA _ _ GO ?_;clear ZA K
  (try simp only[Act.put])
  refine wpAnyH_done (by as_aux_lemma=>kernel_rfl) ?_ _;have QW:=ae (aA (aA (aA (aA t (b:=w.heap.size+1) (fun e=>by have:=(ar t _ e).1;omega) 0 (Y a5 R.length c5)) (b:=w.heap.size+1+1) (fun e=>by have:=(ar t _ e).1;omega) 0 (I J r.code)) (b:=w.heap.size+1+1) (fun e=>by have:=(ar t _ e).1;omega) 1 (U r.text)) (b:=w.heap.size+1+1) (fun e=>by have:=(ar t _ e).1;omega) 2 (Y z r.chain.length A));have DF:=ae (((((D4.below D ly).set (p:=(T (w.heap.size+1) 0 Z)) (e:=25) (.inl (by show w.heap.size+1<f.heap.size;omega)) (Y a5 R.length c5)).set (p:=(T (w.heap.size+1+1) 0 Z)) (e:=25) (.inl (by show w.heap.size+1+1<f.heap.size;omega)) (I J r.code)).set (p:=(T (w.heap.size+1+1) 1 Z)) (e:=25) (.inl (by show w.heap.size+1+1<f.heap.size;omega)) (U r.text)).set (p:=(T (w.heap.size+1+1) 2 Z)) (e:=25) (.inl (by show w.heap.size+1+1<f.heap.size;omega)) (Y z r.chain.length A));have X:=ae (((((B3.trans ((B4.trans (D.mono aq)).mono O)).setCell (p:=(T (w.heap.size+1) 0 Z)) (by show w.heap.size<=w.heap.size+1;omega) (Y a5 R.length c5)).setCell (p:=(T (w.heap.size+1+1) 0 Z)) (by show w.heap.size<=w.heap.size+1+1;omega) (I J r.code)).setCell (p:=(T (w.heap.size+1+1) 1 Z)) (by show w.heap.size<=w.heap.size+1+1;omega) (U r.text)).setCell (p:=(T (w.heap.size+1+1) 2 Z)) (by show w.heap.size<=w.heap.size+1+1;omega) (Y z r.chain.length A));go_wp2;refine bp (v:=.tuple #[QV #[Y a5 R.length c5],QV #[I J r.code,U r.text,Y z r.chain.length A]]) (by simp[results,Tryz.results11,go_sem,Q0,r0,r1,r2]) rfl ⟨a5,c5,R,_,rfl,DF.mono O,M4,⟨z,A,rfl,aE QW (by omega)⟩,X⟩
 ·rw[hl] at q
  obtain⟨r,u⟩:∃ r,r=jn c:=⟨_,rfl⟩
  have e:bb=([],r):=by rw[qr.out,hl,u];rfl
  subst e;obtain⟨a,k,u0,u1,md,or,st,g,ho⟩:=q;have o:r.chain.length<=1000:=by rw[u];exact j4 (C c hl) (by simp)
  have q:c.length=r.chain.length:=by rw[u];rfl
  rw[<-u,q] at g ho;clear u q;obtain⟨QZ,-,-,-,-,-,b5,W,b7,b8,-⟩:=g.facts;have ro:=ae (mi f r a k _ ho o);have P:hb≠w.heap.size+1:=fun e=>by have:=au g (e ▸ n.out);exact absurd this (by decide)
  have M:hb≠w.heap.size+1+1:=fun e=>by have:=au g (e ▸ m.out);exact absurd this (by decide)
  clear hl C g ho o;go_wp2_with fail;refine ro.mono ?_;rintro e Q9 ⟨rv,rfl,⟨z,A,rfl,G⟩,F⟩;have t:=ae G;have D:=ae F;have l:=(D.block _ (ah n)).trans n;have E:=(D.block _ (ah m)).trans m;obtain⟨rl,r0,r1,r2,B⟩:=aU E;have DQ:=B 0;have ur:=B 1;have GE:=B 2;have Q0:Q9.cell? (T (w.heap.size+1) 0 Z)=N (Y Z 0 0):=by simp[World.cell?,l]
  have th:Q9.frozen? (T (w.heap.size+1) 0 Z)=QQ:=by simp[World.frozen?,l]
  have pl:=ah l;have Bk:w.heap.size+1<f.heap.size:=ah n.out;have sm:w.heap.size+1+1<f.heap.size:=ah m.out;have QW:=ae (aA (aA (aA (aA t (b:=w.heap.size+1) (fun e=>by have:=(ar t _ e).1;omega) 0 (Y Z 0 0)) (b:=w.heap.size+1+1) (fun e=>by have:=(ar t _ e).1;omega) 0 (I J r.code)) (b:=w.heap.size+1+1) (fun e=>by have:=(ar t _ e).1;omega) 1 (U r.text)) (b:=w.heap.size+1+1) (fun e=>by have:=(ar t _ e).1;omega) 2 (Y z r.chain.length A));have X:=ae (((((B3.trans (D.mono O)).setCell (p:=(T (w.heap.size+1) 0 Z)) (by show w.heap.size<=w.heap.size+1;omega) (Y Z 0 0)).setCell (p:=(T (w.heap.size+1+1) 0 Z)) (by show w.heap.size<=w.heap.size+1+1;omega) (I J r.code)).setCell (p:=(T (w.heap.size+1+1) 1 Z)) (by show w.heap.size<=w.heap.size+1+1;omega) (U r.text)).setCell (p:=(T (w.heap.size+1+1) 2 Z)) (by show w.heap.size<=w.heap.size+1+1;omega) (Y z r.chain.length A));clear B l E G F b5 W b7 b8;go_wp2_with fail;refine bp (v:=.tuple #[QV #[Y Z 0 0],QV #[I J r.code,U r.text,Y z r.chain.length A]]) (by simp[results,Tryz.results11,go_sem,Q0,r0,r1,r2]) rfl ⟨Z,0,[],_,rfl,ig _ _,rfl,⟨z,A,rfl,?_⟩,?_⟩
  ·first | exact aE QW (by omega) | (have h:=aE QW (show w.heap.size<=f.heap.size by omega);simpa[Q0] using h)
  ·first | exact X | simpa[Q0] using X.out
 ·rw[hl] at q
  obtain⟨r,u⟩:∃ r,r=jo d:=⟨_,rfl⟩
  have e:bb=([],r):=by rw[qr.out,hl,u];rfl
  subst e;obtain⟨u0,u1,md,or,st,g,ho⟩:=q;have o:r.chain.length<=1000:=by rw[u];exact AI _
  have q:0=r.chain.length:=by rw[u];rfl
  rw[<-u,q] at g ho;clear u q;obtain⟨QZ,-,-,-,-,-,b5,W,b7,b8,-⟩:=g.facts;have ro:=ae (mi f r Z r.chain.length _ ho o);have P:hb≠w.heap.size+1:=fun e=>by have:=au g (e ▸ n.out);exact absurd this (by decide)
  have M:hb≠w.heap.size+1+1:=fun e=>by have:=au g (e ▸ m.out);exact absurd this (by decide)
  clear hl C g ho o;go_wp2_with fail;refine ro.mono ?_;rintro e Q9 ⟨rv,rfl,⟨z,A,rfl,G⟩,F⟩;have t:=ae G;have D:=ae F;have l:=(D.block _ (ah n)).trans n;have E:=(D.block _ (ah m)).trans m;obtain⟨rl,r0,r1,r2,B⟩:=aU E;have DQ:=B 0;have ur:=B 1;have GE:=B 2;have Q0:Q9.cell? (T (w.heap.size+1) 0 Z)=N (Y Z 0 0):=by simp[World.cell?,l]
  have th:Q9.frozen? (T (w.heap.size+1) 0 Z)=QQ:=by simp[World.frozen?,l]
  have pl:=ah l;have Bk:w.heap.size+1<f.heap.size:=ah n.out;have sm:w.heap.size+1+1<f.heap.size:=ah m.out;have QW:=ae (aA (aA (aA (aA t (b:=w.heap.size+1) (fun e=>by have:=(ar t _ e).1;omega) 0 (Y Z 0 0)) (b:=w.heap.size+1+1) (fun e=>by have:=(ar t _ e).1;omega) 0 (I J r.code)) (b:=w.heap.size+1+1) (fun e=>by have:=(ar t _ e).1;omega) 1 (U r.text)) (b:=w.heap.size+1+1) (fun e=>by have:=(ar t _ e).1;omega) 2 (Y z r.chain.length A));have X:=ae (((((B3.trans (D.mono O)).setCell (p:=(T (w.heap.size+1) 0 Z)) (by show w.heap.size<=w.heap.size+1;omega) (Y Z 0 0)).setCell (p:=(T (w.heap.size+1+1) 0 Z)) (by show w.heap.size<=w.heap.size+1+1;omega) (I J r.code)).setCell (p:=(T (w.heap.size+1+1) 1 Z)) (by show w.heap.size<=w.heap.size+1+1;omega) (U r.text)).setCell (p:=(T (w.heap.size+1+1) 2 Z)) (by show w.heap.size<=w.heap.size+1+1;omega) (Y z r.chain.length A));clear B l E G F b5 W b7 b8;go_wp2_with fail;refine bp (v:=.tuple #[QV #[Y Z 0 0],QV #[I J r.code,U r.text,Y z r.chain.length A]]) (by simp[results,Tryz.results11,go_sem,Q0,r0,r1,r2]) rfl ⟨Z,0,[],_,rfl,ig _ _,rfl,⟨z,A,rfl,?_⟩,?_⟩
  ·first | exact aE QW (by omega) | (have h:=aE QW (show w.heap.size<=f.heap.size by omega);simpa[Q0] using h)
  ·first | exact X | simpa[Q0] using X.out
theorem jQ (w:H)(nm:ByteArray)(c:SlSource w a0 S.n0 S.f0)(f:SlTarget w a1 S.n1 S.f1)(hn0:S.n0<=1048576)(hn1:S.n1<=1048576)(b:∀ i,i<S.n1->bP (S.f1 i))(g:∀ i,i<S.n1->∀ j,j<(S.f1 i).actN->((S.f1 i).act j).s.size<=maxLen):Calls Tryz.prog 11 #[QV #[Y a0 S.n0 c0,Y a1 S.n1 c1],U nm] w fun e l=>uF w S (aG S nm) e l:=by
 by_cases h:bw S.n0 S.f0 S.n1 S.f1=0/\av nm=QR
 ·exact vP w nm c f hn0 hn1 b g h.1 h.2
 ·have e:aG S nm=([],⟨9,⟨#[]⟩,[]⟩):=by unfold aG;rw[eI h]
  rw[e];exact uG w nm c f hn0 hn1 b g h
end
end Go.Proofs.YtamacmnikdejeaaGreatDoor.Vp
