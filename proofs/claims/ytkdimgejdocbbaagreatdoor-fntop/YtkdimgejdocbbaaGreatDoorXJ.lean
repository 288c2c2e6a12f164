import Derived.Deep.RegionHeld3
import Derived.Test.YtkdimgejdocbbaaGreatDoorXD
import Derived.Defers
import Derived.Recover
set_option maxRecDepth 1000000
set_option maxHeartbeats 8000000
open Go.Addr renaming mk->J
open Go.Value renaming slice->Z,string->U,int->Q,bool->QA,agg->QE
open Option renaming none->Y,some->N
open Go.Obj renaming cells->T
open Go.IntKind renaming i64->I
open Go renaming World->E,Value->QB,TypeId->QF
open Bool renaming false->D,true->QC
open Go.Ending renaming returned->QD
namespace Go.Proofs.YtkdimgejdocbbaaGreatDoor.Vp
open RowKit Go.Maps
theorem qv (v:QB)(b:QF)(w:E):(Instr.typeAssert (.iface 269 v) b 269 QC).run Tryz.prog w=.ok (.tuple #[v,QA QC]) w:=by kernel_rfl
theorem qw (v:QB)(b:QF)(w:E):(Instr.typeAssert (.iface 271 v) b 269 QC).run Tryz.prog w=.ok (.tuple #[QE #[Z Y 0 0],QA D]) w:=by kernel_rfl
theorem vA (v:QB)(b:QF)(w:E):(Instr.typeAssert (.iface 271 v) b 271 QC).run Tryz.prog w=.ok (.tuple #[v,QA QC]) w:=by kernel_rfl
theorem oP (a:Option Addr)(n b:Nat)(w:E):Calls Tryz.prog 158 #[.iface 269 (QE #[Z a n b])] w fun e d=>e=QD (QE #[Q I 6,U ⟨#[]⟩,Z a n b])/\Below w.heap.size w d:=by have t1:=qv;have t2:=qw;have t3:=vA;go_enter Tryz.func158,Tryz.ntmps158;go_wp2;refine bp (v:=QE #[Q I 6,U ⟨#[]⟩,Z a n b]) (by simp[results,Tryz.results158,go_sem]) rfl ⟨rfl,?_⟩;exact((Qs w).alloc lr _).alloc (by simp) _
theorem qZ (d:ByteArray)(w:E):Calls Tryz.prog 158 #[.iface 271 (QE #[U d])] w fun e b=>e=QD (QE #[Q I 7,U d,Z Y 0 0])/\Below w.heap.size w b:=by have t1:=qv;have t2:=qw;have t3:=vA;go_enter Tryz.func158,Tryz.ntmps158;go_wp2;refine bp (v:=QE #[Q I 7,U d,Z Y 0 0]) (by simp[results,Tryz.results158,go_sem]) rfl ⟨rfl,?_⟩;exact((Qs w).alloc lr _).alloc (by simp) _
theorem xA (p q:Addr)(w:E):CallsD Tryz.prog 157 #[.pointer (N p),.pointer (N q)] .returning w fun e d g=>e=QD (.tuple #[])/\d=.returning/\g=w:=by
 have hq:∀ w:E,(binOp BinOp.neq 20 .nilIface .nilIface).run Tryz.prog w=.ok (QA D) w:=fun _=>by kernel_rfl
 refine callsD_of_wpS Tryz.func157 rfl fun b cs f=>?_;apply wpS_seq;apply wpS_region;simp[wpOpsS,go_sem,recoverD,f,Tryz.ntmps157,Exit.thenS];refine wpS_of_wp ?_;go_wp2;cases b
 simp_all[bodyPostS,results,Tryz.results157]
theorem mU (p q:Nat)(QK:QF)(n:QB)(b:List PanicEntry)(c:Int)(t:ByteArray)(y:Option Addr)(sn r:Nat)(w:E)(C:Calls Tryz.prog 158 #[.iface QK n] w fun e k=>e=QD (QE #[Q I c,U t,Z y sn r])/\Below w.heap.size w k)(o QP QO G:QB)(H B:QF)(j:w.heap[p]?=N (T #[o] H (0,0)))(i:w.heap[q]?=N (T #[QP,QO,G] B (0,0)))(s:¬ p=q):CallsD Tryz.prog 157 #[.pointer (N (J p 0 Y)),.pointer (N (J q 0 Y))] (.panicking ({ v:=.iface QK n,recovered:=D } :: b)) w fun e K k=>e=QD (.tuple #[])/\K=.panicking ({ v:=.iface QK n,recovered:=QC } :: b)/\∃ f,Below w.heap.size w f/\k=(((f.setCell (J p 0 Y) (Z Y 0 0)).setCell (J q 0 Y) (Q I c)).setCell (J q 1 Y) (U t)).setCell (J q 2 Y) (Z y sn r):=by
 refine callsD_of_wpS Tryz.func157 rfl fun l cs m=>?_;apply wpS_seq;apply wpS_region;simp[wpOpsS,go_sem,recoverD,m,Tryz.ntmps157,Exit.thenS];have hnq:∀ (w:E) (v:QB),(binOp BinOp.neq 20 (.iface QK v) .nilIface).run Tryz.prog w=.ok (QA QC) w:=fun _ _=>by kernel_rfl
 have A:=ae m;have QQ:=ae j;have QN:=ae i;have hpl:=ai j;have u:=ai i;clear m j i;refine wpS_of_wp ?_;go_wp2_with fail;refine C.mono ?_;rintro e f ⟨rfl,h⟩;have z:=ae h;have d:=(h.block p hpl).trans QQ;obtain⟨rl,r0,r1,r2,g⟩:=cV ((h.block q u).trans QN);have rf0:=g 0;have rf1:=g 1;have rf2:=g 2;have p0:f.cell? (J p 0 Y)=N o:=by simp[World.cell?,d]
 have pf0:f.frozen? (J p 0 Y)=D:=by simp[World.frozen?,d]
 have hpl1:=ai d;have hqp:¬ q=p:=fun e=>s e.symm;clear g h d;go_wp2;have x:=A.out;cases l
 simp only at x;subst x;refine⟨rfl,_,rfl,.tuple #[],by simp[results,Tryz.results157],rfl,rfl,f,z,rfl⟩
end Go.Proofs.YtkdimgejdocbbaaGreatDoor.Vp
namespace Go.Proofs.YtkdimgejdocbbaaGreatDoor.Vp
open RowKit Go.Maps Ca
def jX (w:E)(S:Spc)(d:E)(b:List Ent)(f:QB):Prop :=
 ∃ (G:ByteArray->Nat) (V:ByteArray->QB),d.ownsRow w.heap.size 124 1 f b.length (jf G b)/\(∀ x∈b,EntAt w S G d (G x.name) (V x.name) x)/\b.Pairwise fun x y=>G x.name≠G y.name
def iJ (w b:E)(r:ResL)(v:QB):Prop:=∃ a c,v=QE #[Q I r.code,U r.text,Z a r.chain.length c]/\b.ownsRow w.heap.size 9 1 (Z a r.chain.length c) r.chain.length (bq r.chain)
def zg (w:E)(S:Spc)(b:List Ent × ResL)(e:Ending)(d:E):Prop :=
 ∃ h g i,Below w.heap.size w h/\e=QD (.tuple #[g,i])/\jX h S d b.1 g/\iJ w d b.2 i/\Below w.heap.size w d/\(b.1≠[]->∀ b off n f,0<n->RowIns h b off n f->RowIns d b off n f)
theorem Bv {w:E}{b off n:Nat}{f:Nat->Ins}{a:Option Addr}{m c:Nat}{t:QF}(h:w.heap[b]?=N (T #[Z a m c] t (0,0)))(g:0<n)(i:RowIns w b off n f):False:=by
 have d:=(i.2 0 g).1;simp only[World.cell?,h,LZ,NE] at d;match off,d with
 | 0,d=>simp at d
 | k+1,d=>simp at d
theorem Bw {w:E}{b off n:Nat}{f:Nat->Ins}{z:Int}{x:ByteArray}{a:Option Addr}{m c:Nat}{t:QF}(h:w.heap[b]?=N (T #[Q I z,U x,Z a m c] t (0,0)))(g:0<n)(i:RowIns w b off n f):False:=by
 have d:=(i.2 0 g).1;have h2:=(i.2 0 g).2.2;simp only[World.cell?,h,LZ,NE] at d h2;match off,d,h2 with
 | 0,d,h2=>simp at h2
 | 1,d,h2=>simp at d
 | 2,d,h2=>simp at d
 | k+3,d,h2=>simp at d
theorem nP (w:E)(S:Spc)(b:E):jX w S b [] (Z Y 0 0):=⟨fun _=>0,fun _=>Z Y 0 0,⟨rfl,.inl ⟨rfl,rfl⟩⟩,fun _ d=>absurd d nj,List.Pairwise.nil⟩
theorem ik (w b:E)(c:Int)(t:ByteArray):iJ w b ⟨c,t,[]⟩ (QE #[Q I c,U t,Z Y 0 0]):=⟨Y,0,rfl,⟨rfl,.inl ⟨rfl,rfl⟩⟩⟩
theorem xB (nm tx:ByteArray)(b d:Int)(g:Option Addr)(h i:Nat)(w:E):Calls Tryz.prog 160 #[QE #[U nm,Q I b,Q I d,U tx,Z g h i,Z Y 0 0]] w fun e l=>e=QD (if b=2 then QE #[Q I 4,U nm,Z Y 0 0] else QE #[Q I d,U tx,Z Y 0 0])/\Below w.heap.size w l:=by
 have k:=ae ((Qs w).alloc lr (T #[U nm,Q I b,Q I d,U tx,Z g h i,Z Y 0 0] 58));by_cases f:b=2
 ·rw[eT f]
  have j:(b == 2)=QC:=by simpa using f
  go_enter Tryz.func160,Tryz.ntmps160;go_wp2;refine bp (v:=QE #[Q I 4,U nm,Z Y 0 0]) (by simp[results,Tryz.results160,go_sem]) rfl ⟨rfl,?_⟩;exact((Qs w).alloc lr _).alloc (by simp) _
 ·rw[a8 f]
  have j:(b == 2)=D:=by simpa using f
  go_enter Tryz.func160,Tryz.ntmps160;go_wp2;refine bp (v:=QE #[Q I d,U tx,Z Y 0 0]) (by simp[results,Tryz.results160,go_sem]) rfl ⟨rfl,?_⟩;exact k.alloc k.size _
def BSt (w W:E)(u v:QB):Prop:=Below w.heap.size w W/\W.heap[w.heap.size]?=N (T #[u,v] 26 (0,0))/\W.heap[w.heap.size+1]?=N (T #[Z Y 0 0] 117 (0,0))/\W.heap[w.heap.size+1+1]?=N (T #[Q I 0,U ⟨#[]⟩,Z Y 0 0] 41 (0,0))
theorem DK (w:E)(u v:QB):BSt w (((w.alloc (T #[u,v] 26)).alloc (T #[Z Y 0 0] 117)).alloc (T #[Q I 0,U ⟨#[]⟩,Z Y 0 0] 41)) u v:=by
 refine⟨(((Qs w).alloc lr _).alloc (by simp) _).alloc (by simp<;>omega) _,((((eI (w.heap.size+1) _).alloc (by simp) _).alloc (by simp<;>omega) _).block w.heap.size (by omega)).trans (eL w _),?_,?_⟩
 ·have h2:=eL (w.alloc (T #[u,v] 26)) (T #[Z Y 0 0] 117)
  rw[show(w.alloc (T #[u,v] 26)).heap.size=w.heap.size+1 by simp] at h2;exact(((eI (w.heap.size+2) _).alloc (by simp) _).block (w.heap.size+1) (by omega)).trans h2
 ·have h2:=eL ((w.alloc (T #[u,v] 26)).alloc (T #[Z Y 0 0] 117)) (T #[Q I 0,U ⟨#[]⟩,Z Y 0 0] 41)
  rw[show((w.alloc (T #[u,v] 26)).alloc (T #[Z Y 0 0] 117)).heap.size=w.heap.size+1+1 by simp] at h2;exact h2
section
variable {w W W':E}{u v:QB}(h:BSt w W u v)
include h
theorem BSt.below (b:Below W.heap.size W W'):BSt w W' u v :=
 ⟨h.1.trans (b.mono h.1.size),(b.block _ (ai h.2.1)).trans h.2.1,(b.block _ (ai h.2.2.1)).trans h.2.2.1,(b.block _ (ai h.2.2.2)).trans h.2.2.2⟩
theorem BSt.fin (b d f g:QB):Below w.heap.size w ((((W.setCell (J (w.heap.size+1) 0 Y) b).setCell (J (w.heap.size+1+1) 0 Y) d).setCell (J (w.heap.size+1+1) 1 Y) f).setCell (J (w.heap.size+1+1) 2 Y) g) :=
 (((h.1.setCell (MX _ 1) b).setCell (MX _ 2) d).setCell (MX _ 2) f).setCell (MX _ 2) g
theorem BSt.args:W.cell? (J w.heap.size 0 Y)=N u/\W.cell? (J w.heap.size 1 Y)=N v/\w.heap.size+3<=W.heap.size :=
 ⟨by simp[World.cell?,h.2.1],by simp[World.cell?,h.2.1],ai h.2.2.2⟩
theorem BSt.row:w.heap.size+1<W.heap.size/\W.cell? (J (w.heap.size+1) 0 Y)=N (Z Y 0 0)/\W.frozen? (J (w.heap.size+1) 0 Y)=D :=
 ⟨ai h.2.2.1,by simp[World.cell?,h.2.2.1],by simp[World.frozen?,h.2.2.1]⟩
end
section
variable {S:Spc}{a0 a1:Option Addr}{c0 c1:Nat}
theorem EntAt.setLow {d w:E}{G:ByteArray->Nat}{b:Nat}{v:QB}{x:Ent}(h:EntAt d S G w b v x){k:Nat}(hk:k<d.heap.size)(j:Nat)(u:QB):EntAt d S G (w.setCell (J k j Y) u) b v x:=by obtain⟨⟨act,hb,g⟩,i,f⟩:=h;refine⟨⟨act,(qh _ _ _ _ (show b≠k by omega)).trans hb,g⟩,i,az f (fun e=>?_) _ _⟩;have:=(af f k e).1;omega
theorem lm {f w:E}{b:List Ent}{d:QB}(h:jX f S w b d){k:Nat}(i:k<f.heap.size)(j:Nat)(u:QB):jX f S (w.setCell (J k j Y) u) b d:=by obtain⟨G,V,h1,h2,g⟩:=h;refine⟨G,V,az h1 (fun e=>?_) _ _,fun x l=>(h2 x l).setLow i j u,g⟩;have:=(af h1 k e).1;omega
theorem Bz (w:E):(Instr.makeMap 202 Y).run Tryz.prog w=.ok (.map (N w.heap.size)) (w.alloc (.map #[] 0)):=by kernel_rfl
theorem tC (S:Spc):dG S [] []<=S.n1:=by have:=KT (p:=iE S [] []) (l:=List.range S.n1);rw[List.length_range] at this;exact this
theorem zi (w:E)(nm:ByteArray)(Fi:SlSource w a0 S.n0 S.f0)(DA:SlTarget w a1 S.n1 S.f1)(hn0:S.n0<=1048576)(hn1:S.n1<=1048576)(ex:∀ i,i<S.n1->aS (S.f1 i))(hT:Tab w)(At:Tab2 w)(hP:Pow w):Calls Tryz.prog 81 #[QE #[Z a0 S.n0 c0,Z a1 S.n1 c1],U nm] w fun e w'=>zg w S (bj S nm) e w':=by
 have V0:=ae Fi;have V1:=ae DA;have Fl:=ae ex;have th:=ae hT;have DQ:=ae At;have Fu:=ae hP;obtain⟨ck,Fh⟩:∃ ck,ck=aU S.n0 S.f0 S.n1 S.f1:=⟨_,rfl⟩
 have W:=ae Fh;obtain⟨kn,sm⟩:∃ kn,kn=au nm:=⟨_,rfl⟩
 have QH:=ae sm;obtain⟨P,n7⟩:∃ P,P=bj S nm:=⟨_,rfl⟩
 have HP:=ae n7;rw[<-n7];clear Fi DA ex hT At hP Fh sm n7;have hmm:=Bz;have hmf:∀ (fn:Fn) (first ur:Array QB) (w:E),(Instr.makeFunc fn first ur).run Tryz.prog w=.ok (.func fn first ur) w:=fun _ _ _ _=>rfl;have L:=ae (DK w (Z a0 S.n0 c0) (Z a1 S.n1 c1));obtain⟨s0,s1,zS⟩:=L.args;go_enter_defers Tryz.func81,Tryz.ntmps81;go_wp2_with fail;generalize ((w.alloc (T #[Z a0 S.n0 c0,Z a1 S.n1 c1] 26)).alloc (T #[Z Y 0 0] 117)).alloc (T #[Q I 0,U ⟨#[]⟩,Z Y 0 0] 41)=W0 at L s0 s1 zS ⊢;refine(lB a0 S.n0 c0 S.f0 a1 S.n1 c1 S.f1 _ (by omega) (by omega) (V0.below L.1 lr) (V1.below L.1 lr) Fl (th.below L.1 th.1)).mono ?_;rintro e w1 ⟨QP,r⟩;rw[<-W.out] at QP;subst QP;have q:=ae (L.below r);clear r s0 s1 zS L;by_cases hc:ck=0;case' pos =>subst hc;go_wp2_with fail;refine(eO nm w1).mono ?_;rintro e j ⟨QP,r⟩;rw[<-QH.out] at QP;subst QP;replace q:=ae (q.below r);clear r;cases kn
 case true =>
  have Fd:=ae QH.symm;have aq:=ae (SpcOk.of W.symm);have hq:P=match aL S 60 [] [] nm with | .inl (m,e)=>(m,cR e) | .inr (.inl c)=>([],⟨6,⟨#[]⟩,c⟩) | .inr (.inr d)=>([],⟨7,d,[]⟩):=by rw[HP.out];exact eT ⟨W.symm,QH.symm⟩
  generalize hR:aL S 60 [] [] nm=R at hq;have HR:=ae hR.symm;clear HP hR;subst hq;have M:=ae q.1;have ld:=ae q.2.2.1;have qr:=ae q.2.2.2;obtain⟨q0,q1,hz2⟩:=q.args;have AM:=ae ((Qs j).alloc lr (.map #[] 0));have AK:=ae (AM.alloc (by simp) (T #[Z a0 S.n0 c0,Z a1 S.n1 c1,.map (N j.heap.size),Z Y 0 0,Z Y 0 0] 204));have CX:Hid (Ctx j S a0 c0 a1 c1):=⟨V0.below M lr,V1.below M lr,aq,DQ.below M DQ.1,Fu.below M lr,fun i hi=>by have:=aq.text i hi;unfold maxLen;omega⟩
  have zM:(j.alloc (.map #[] 0)).heap.size=j.heap.size+1:=by simp
  have ro:Hid (MI j S (j.heap.size+1) j.heap.size (Z a0 S.n0 c0) (Z a1 S.n1 c1) ((j.alloc (.map #[] 0)).alloc (T #[Z a0 S.n0 c0,Z a1 S.n1 c1,.map (N j.heap.size),Z Y 0 0,Z Y 0 0] 204)) [] [] [] (fun _=>0) (fun _=>Z Y 0 0) (Z Y 0 0) (Z Y 0 0)):=by
   refine⟨AK,AS _,j6 _,?_,⟨rfl,.inl ⟨rfl,rfl⟩⟩,⟨rfl,.inl ⟨rfl,rfl⟩⟩,?_,fun _ hx=>absurd hx nj,List.Pairwise.nil⟩
   ·have h2:=eL (j.alloc (.map #[] 0)) (T #[Z a0 S.n0 c0,Z a1 S.n1 c1,.map (N j.heap.size),Z Y 0 0,Z Y 0 0] 204)
    rw[zM] at h2;exact h2
   ·refine((AZ j).blk (((eI (j.heap.size+1) _).alloc (by simp) _).block j.heap.size (by omega))).congr fun s=>?_
    simp[dw]
  have Ft:Hid (ed S [] [] 1):=by have h1:=tC S;have h2:=aq.small;unfold ed;show _<=_;simp;omega
  go_wp2_with fail;clear q0 q1;generalize (j.alloc (.map #[] 0)).alloc (T #[Z a0 S.n0 c0,Z a1 S.n1 c1,.map (N j.heap.size),Z Y 0 0,Z Y 0 0] 204)=W3 at AK ro ⊢;refine(Bn CX 60 [] [] _ _ _ _ W3 nm rfl ro (fH S []) Ft Fd).mono ?_;intro e p t;rw[<-HR.out] at t;rcases R with ⟨m,x⟩ | c | d
  ·obtain⟨G',V',mk',md',rfl,hM,hE,B⟩:=t
   obtain⟨FD,-,hx,Fp⟩:=cP aq 60 [] [] nm m x (fH S []) Fd HR.symm;obtain⟨act,Bk,QQ⟩:=(hM.ents x hx).blk;obtain⟨aa,na,ca,rfl⟩:∃ a n c,act=Z a n c:=by
    unfold mF at QQ;split at QQ
    ·obtain⟨_,a,c,e,_⟩:=QQ;exact⟨a,_,c,e⟩
    ·exact⟨_,_,_,QQ⟩
   obtain⟨G,O,rfl⟩:=bX hM.rmd;obtain⟨rc,rt,fd,DE⟩:∃ rc rt,(if x.kind=2 then Value.agg #[Q I 4,U x.name,Z Y 0 0] else QE #[Q I x.code,U x.text,Z Y 0 0])=QE #[Q I rc,U rt,Z Y 0 0]/\cR x=⟨rc,rt,[]⟩:=by
    unfold cR;split
    ·exact⟨_,_,rfl,rfl⟩
    ·exact⟨_,_,rfl,rfl⟩
   have FC:=ae fd;have FA:=ae DE;have M4:=ae hM;have o:=ae hM.bel;have Fk:=(hM.ents x hx).ge;have ph:=ae Bk;obtain⟨l,Fj⟩:∃ l,l=G' x.name:=⟨_,rfl⟩
   rw[<-Fj] at ph Fk ⊢;have SQ:Hid (∀ V:E,V.heap[j.heap.size+1]?=p.heap[j.heap.size+1]?->V.heap[l]?=p.heap[l]?->V.cell? (J (j.heap.size+1) 4 Y)=N (Z G m.length O)/\V.cell? (J l 0 Y)=N (U x.name)/\V.cell? (J l 1 Y)=N (Q I x.kind)/\V.cell? (J l 2 Y)=N (Q I x.code)/\V.cell? (J l 3 Y)=N (U x.text)/\V.cell? (J l 4 Y)=N (Z aa na ca)/\V.cell? (J l 5 Y)=N (Z Y 0 0)):=fun V h1 h2=>by obtain⟨-,-,-,-,-,e4,-⟩:=M4.box.facts;obtain⟨-,e0,e1,e2,e3,e5,e6,-,-,-⟩:=ph.facts;exact⟨(cq (a:=(J (j.heap.size+1) 4 Y)) h1).trans e4,(cq (a:=(J l 0 Y)) h2).trans e0,(cq (a:=(J l 1 Y)) h2).trans e1,(cq (a:=(J l 2 Y)) h2).trans e2,(cq (a:=(J l 3 Y)) h2).trans e3,(cq (a:=(J l 4 Y)) h2).trans e5,(cq (a:=(J l 5 Y)) h2).trans e6⟩
   have QK:=ai hM.box;have QL:=ai ph.out;clear hM hE B FD hx Fp Bk QQ fd DE Fj;go_wp2_with fail;refine wp_region_noPanic ?_;refine wp_region_held_drew (S:=fun V=>V.cell? (J (j.heap.size+1) 4 Y)=N (Z G m.length O)/\V.cell? (J l 0 Y)=N (U x.name)/\V.cell? (J l 1 Y)=N (Q I x.kind)/\V.cell? (J l 2 Y)=N (Q I x.code)/\V.cell? (J l 3 Y)=N (U x.text)/\V.cell? (J l 4 Y)=N (Z aa na ca)/\V.cell? (J l 5 Y)=N (Z Y 0 0)) (by as_aux_lemma=>kernel_rfl) (SQ _ rfl rfl) (fun hS=>?_);have HS:=ae hS;clear hS
   iterate 6
    first | refine bS 0 (v:=?_) rfl rfl (by as_aux_lemma=>kernel_rfl) (fun _ _ _ h=>h) rfl ?_ HS ?_ | refine bS 2 (v:=?_) rfl rfl (by as_aux_lemma=>kernel_rfl) (fun _ _ _ h=>h) rfl ?_ HS ?_
    rotate_left
    ·(intro wz Fm;obtain⟨s0,s1,s2,s3,s4,s5,s6⟩:=Fm;go_simp)
     (try with_reducible rfl)
    (try simp only[Act.put,nzL])
   refine bN (i:=6) rfl (by as_aux_lemma=>kernel_rfl) (fun K B=>?_);go_simp;go_at_call 160;refine(xB x.name x.text x.kind x.code aa na ca _).mono ?_;rintro e QO ⟨QP,r⟩;rw[FC.out] at QP;subst QP;have A:Hid (Below p.heap.size p QO):=⟨r.os,r.tape,r.output,r.size,r.block⟩
   clear r HS;have HS:=ae (SQ QO (A.block _ QK) (A.block _ QL));refine B _ _ HS ?_;clear B K
   (try simp only[Act.put,nzL])
   have z:=ae (q.below (o.trans (A.mono o.size)));obtain⟨hpl,H,Fr⟩:=z.row;obtain⟨rl,r0,r1,QN,C⟩:=cV z.2.2.2;have Fx:=C 0;have Fs:=C 1;have Fv:=C 2;clear C;have Fo:Hid (jX j S QO m (Z G m.length O)):=⟨G',V',own_below M4.rmd A lr,fun y hy=>(M4.ents y hy).kx (KX.of_below (X:=XN) A lr M4.lt) (fun h=>h) (fun _ _ h=>h),M4.dist⟩
   have n6:w.heap.size+1≠j.heap.size+1:=by omega
   have mv:w.heap.size+1≠l:=by omega
   refine bN (i:=7) rfl (by as_aux_lemma=>kernel_rfl) (fun K B=>?_);go_simp;have Fy:=ae (SQ (QO.setCell (J (w.heap.size+1) 0 Y) (Z G m.length O)) ((qh _ _ _ _ n6.symm).trans (A.block _ QK)) ((qh _ _ _ _ mv.symm).trans (A.block _ QL)));refine B _ _ Fy ?_;clear B K HS
   (try simp only[Act.put])
   have QJ:w.heap.size+1+1≠j.heap.size+1:=by omega
   have QM:w.heap.size+1+1≠l:=by omega
   have Fw:=ae (SQ ((((QO.setCell (J (w.heap.size+1) 0 Y) (Z G m.length O)).setCell (J (w.heap.size+1+1) 0 Y) (Q I rc)).setCell (J (w.heap.size+1+1) 1 Y) (U rt)).setCell (J (w.heap.size+1+1) 2 Y) (Z Y 0 0)) ((qh _ _ _ _ QJ.symm).trans ((qh _ _ _ _ QJ.symm).trans ((qh _ _ _ _ QJ.symm).trans ((qh _ _ _ _ n6.symm).trans (A.block _ QK))))) ((qh _ _ _ _ QM.symm).trans ((qh _ _ _ _ QM.symm).trans ((qh _ _ _ _ QM.symm).trans ((qh _ _ _ _ mv.symm).trans (A.block _ QL))))));have Fz:=ae (lm (lm (lm (lm Fo (show w.heap.size+1<j.heap.size by omega) 0 (Z G m.length O)) (show w.heap.size+1+1<j.heap.size by omega) 0 (Q I rc)) (show w.heap.size+1+1<j.heap.size by omega) 1 (U rt)) (show w.heap.size+1+1<j.heap.size by omega) 2 (Z Y 0 0));refine bN (i:=8) rfl (by as_aux_lemma=>kernel_rfl) (fun K B=>?_);go_simp;refine B _ _ Fw ?_;clear B K
   (try simp only[Act.put])
   refine wpAnyH_done (by as_aux_lemma=>kernel_rfl) ?_ _;refine NoPanic.normal ?_;go_wp2_with fail;refine leaves_cons (f:=157) (args:=#[.pointer (N (J (w.heap.size+1) 0 Y)),.pointer (N (J (w.heap.size+1+1) 0 Y))]) (by simp) (by simp[go_sem]) ?_;refine(xA (J (w.heap.size+1) 0 Y) (J (w.heap.size+1+1) 0 Y) _).mono ?_;rintro e u' w6 ⟨rfl,rfl,rfl⟩;show Leaves _ _ _ _ [] .returning _;refine⟨.tuple #[Z G m.length O,QE #[Q I rc,U rt,Z Y 0 0]],by simp[results,Tryz.results81,go_sem,H,r0,r1,QN],?_⟩;refine⟨j,_,_,M,rfl,Fz,by rw[FA.out];exact ik _ _ _ _,z.fin _ _ _ _,fun _ b off n f hn0 n8=>?_⟩;have Fq:b≠w.heap.size+1:=fun e=>Bv (by rw[e];exact ld) hn0 n8;have bt:b≠w.heap.size+1+1:=fun e=>Bw (by rw[e];exact qr) hn0 n8;exact((((((n8.below o lr).below A lr).setOther _ Fq.symm _).setOther _ bt.symm _).setOther _ bt.symm _).setOther _ bt.symm _)
  ·obtain⟨u,rfl,h1,h2⟩:=t
   obtain⟨g,cu,rfl⟩:=bX h1;have o:=ae (AK.trans h2);have O4:=ae h1;go_wp2_with fail;have n9:p.heap[w.heap.size+1]?=_:=(o.block _ (by omega)).trans ld;have la:p.heap[w.heap.size+1+1]?=_:=(o.block _ (by omega)).trans qr;refine leaves_cons (f:=157) (args:=#[.pointer (N (J (w.heap.size+1) 0 Y)),.pointer (N (J (w.heap.size+1+1) 0 Y))]) (by simp) (by simp[go_sem]) ?_;refine(mU (w.heap.size+1) (w.heap.size+1+1) 269 _ [] 6 ⟨#[]⟩ g c.length cu p (oP g c.length cu p) _ _ _ _ _ _ n9 la (by omega)).mono ?_;rintro e u' w6 ⟨rfl,rfl,QO,QG,rfl⟩;have OB:Hid (∀ k,k<j.heap.size->(Value.slice g c.length cu).ownBlock≠N k):=fun k hk e=>by have:=(af O4 k e).1;omega
   have z:=ae (q.below (o.trans (QG.mono o.size)));obtain⟨hpl,H,-⟩:=z.row;obtain⟨rl,r0,r1,QN,-⟩:=cV z.2.2.2;show Leaves _ _ _ _ [] .returning _;refine⟨.tuple #[Z Y 0 0,QE #[Q I 6,U ⟨#[]⟩,(Z g c.length cu)]],by simp[results,Tryz.results81,go_sem,H,r0,r1,QN],?_⟩;exact⟨j,_,_,M,rfl,nP _ _ _,⟨g,cu,rfl,aI (az (az (az (az (own_below O4 QG lr) (OB _ (by omega)) _ _) (OB _ (by omega)) _ _) (OB _ (by omega)) _ _) (OB _ (by omega)) _ _) (by omega)⟩,z.fin _ _ _ _,fun h=>absurd rfl h⟩
  ·obtain⟨rfl,h2⟩:=t
   have o:=ae (AK.trans h2);go_wp2_with fail;have n9:p.heap[w.heap.size+1]?=_:=(o.block _ (by omega)).trans ld;have la:p.heap[w.heap.size+1+1]?=_:=(o.block _ (by omega)).trans qr;refine leaves_cons (f:=157) (args:=#[.pointer (N (J (w.heap.size+1) 0 Y)),.pointer (N (J (w.heap.size+1+1) 0 Y))]) (by simp) (by simp[go_sem]) ?_;refine(mU (w.heap.size+1) (w.heap.size+1+1) 271 _ [] 7 d Y 0 0 p (qZ d p) _ _ _ _ _ _ n9 la (by omega)).mono ?_;rintro e u' w6 ⟨rfl,rfl,QO,QG,rfl⟩;have z:=ae (q.below (o.trans (QG.mono o.size)));obtain⟨hpl,H,-⟩:=z.row;obtain⟨rl,r0,r1,QN,-⟩:=cV z.2.2.2;show Leaves _ _ _ _ [] .returning _;refine⟨.tuple #[Z Y 0 0,QE #[Q I 7,U d,(Z Y 0 0)]],by simp[results,Tryz.results81,go_sem,H,r0,r1,QN],?_⟩;exact⟨j,_,_,M,rfl,nP _ _ _,ik _ _ _ _,z.fin _ _ _ _,fun h=>absurd rfl h⟩
 all_goals
  have hq:P=([],⟨9,⟨#[]⟩,[]⟩):=by rw[HP.out];exact a8 fun h=>by first | exact hc (W.trans h.1) | exact absurd (QH.trans h.2) (by simp)
  clear HP;subst hq
  (try have hc2:(ck == 0)=D:=by simpa using hc)
  obtain⟨hpl,H,Fr⟩:=q.row;obtain⟨rl,r0,r1,QN,C⟩:=cV q.2.2.2;have Fx:=C 0;have Fs:=C 1;have Fv:=C 2;clear C;go_wp2_with fail;refine⟨.tuple #[Z Y 0 0,QE #[Q I 9,U ⟨#[]⟩,Z Y 0 0]],by simp[results,Tryz.results81,go_sem,H,r0,r1,QN],?_⟩;exact⟨w,_,_,eI _ _,rfl,nP _ _ _,ik _ _ _ _,q.fin _ _ _ _,fun h=>absurd rfl h⟩
end
end Go.Proofs.YtkdimgejdocbbaaGreatDoor.Vp
namespace Go.Proofs.YtkdimgejdocbbaaGreatDoor.Vp
open RowKit
section
variable {S:Spc}{a0 a1:Option Addr}{c0 c1:Nat}
end
end Go.Proofs.YtkdimgejdocbbaaGreatDoor.Vp
