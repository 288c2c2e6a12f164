import Derived.Deep.RegionHeld3
import Derived.Test.YtkdimgejdocbbaaGreatDoorXD
import Derived.Defers
import Derived.Recover
set_option maxRecDepth 1000000
set_option maxHeartbeats 8000000
open Go.Addr renaming mk->J
open Go.Value renaming slice->Y,string->U,int->N,bool->QA,agg->QE
open Option renaming none->Z,some->Q
open Go.Obj renaming cells->T
open Go.IntKind renaming i64->I
open Go renaming World->E,Value->QB,TypeId->QF
open Bool renaming false->D,true->QC
open Go.Ending renaming returned->QD
namespace Go.Proofs.YtkdimgejdocbbaaGreatDoor.Vp
open RowKit Go.Maps
theorem qv (v:QB)(b:QF)(w:E):(Instr.typeAssert (.iface 269 v) b 269 QC).run Tryz.prog w=.ok (.tuple #[v,QA QC]) w:=by kernel_rfl
theorem qw (v:QB)(b:QF)(w:E):(Instr.typeAssert (.iface 271 v) b 269 QC).run Tryz.prog w=.ok (.tuple #[QE #[Y Z 0 0],QA D]) w:=by kernel_rfl
theorem vA (v:QB)(b:QF)(w:E):(Instr.typeAssert (.iface 271 v) b 271 QC).run Tryz.prog w=.ok (.tuple #[v,QA QC]) w:=by kernel_rfl
theorem oP (a:Option Addr)(n b:Nat)(w:E):Calls Tryz.prog 158 #[.iface 269 (QE #[Y a n b])] w fun e d=>e=QD (QE #[N I 6,U ⟨#[]⟩,Y a n b])/\Below w.heap.size w d:=by have t1:=qv;have t2:=qw;have t3:=vA;go_enter Tryz.func158,Tryz.ntmps158;go_wp2;refine bp (v:=QE #[N I 6,U ⟨#[]⟩,Y a n b]) (by simp[results,Tryz.results158,go_sem]) rfl ⟨rfl,?_⟩;exact((Qs w).alloc lr _).alloc (by simp) _
theorem qZ (d:ByteArray)(w:E):Calls Tryz.prog 158 #[.iface 271 (QE #[U d])] w fun e b=>e=QD (QE #[N I 7,U d,Y Z 0 0])/\Below w.heap.size w b:=by have t1:=qv;have t2:=qw;have t3:=vA;go_enter Tryz.func158,Tryz.ntmps158;go_wp2;refine bp (v:=QE #[N I 7,U d,Y Z 0 0]) (by simp[results,Tryz.results158,go_sem]) rfl ⟨rfl,?_⟩;exact((Qs w).alloc lr _).alloc (by simp) _
theorem xA (p q:Addr)(w:E):CallsD Tryz.prog 157 #[.pointer (Q p),.pointer (Q q)] .returning w fun e g d=>e=QD (.tuple #[])/\g=.returning/\d=w:=by
 have hq:∀ w:E,(binOp BinOp.neq 20 .nilIface .nilIface).run Tryz.prog w=.ok (QA D) w:=fun _=>by kernel_rfl
 refine callsD_of_wpS Tryz.func157 rfl fun b cs f=>?_;apply wpS_seq;apply wpS_region;simp[wpOpsS,go_sem,recoverD,f,Tryz.ntmps157,Exit.thenS];refine wpS_of_wp ?_;go_wp2;cases b
 simp_all[bodyPostS,results,Tryz.results157]
theorem mU (p q:Nat)(QK:QF)(l:QB)(d:List PanicEntry)(c:Int)(t:ByteArray)(y:Option Addr)(sn o:Nat)(w:E)(G:Calls Tryz.prog 158 #[.iface QK l] w fun e i=>e=QD (QE #[N I c,U t,Y y sn o])/\Below w.heap.size w i)(s H A QQ:QB)(B C:QF)(j:w.heap[p]?=Q (T #[s] B (0,0)))(k:w.heap[q]?=Q (T #[H,A,QQ] C (0,0)))(x:¬ p=q):CallsD Tryz.prog 157 #[.pointer (Q (J p 0 Z)),.pointer (Q (J q 0 Z))] (.panicking ({ v:=.iface QK l,recovered:=D } :: d)) w fun e QN i=>e=QD (.tuple #[])/\QN=.panicking ({ v:=.iface QK l,recovered:=QC } :: d)/\∃ f,Below w.heap.size w f/\i=(((f.setCell (J p 0 Z) (Y Z 0 0)).setCell (J q 0 Z) (N I c)).setCell (J q 1 Z) (U t)).setCell (J q 2 Z) (Y y sn o):=by
 refine callsD_of_wpS Tryz.func157 rfl fun n cs m=>?_;apply wpS_seq;apply wpS_region;simp[wpOpsS,go_sem,recoverD,m,Tryz.ntmps157,Exit.thenS];have hnq:∀ (w:E) (v:QB),(binOp BinOp.neq 20 (.iface QK v) .nilIface).run Tryz.prog w=.ok (QA QC) w:=fun _ _=>by kernel_rfl
 have QO:=ae m;have z:=ae j;have QP:=ae k;have hpl:=ai j;have r:=ai k;clear m j k;refine wpS_of_wp ?_;go_wp2_with fail;refine G.mono ?_;rintro e f ⟨rfl,g⟩;have K:=ae g;have b:=(g.block p hpl).trans z;obtain⟨rl,r0,r1,r2,h⟩:=cV ((g.block q r).trans QP);have rf0:=h 0;have rf1:=h 1;have rf2:=h 2;have p0:f.cell? (J p 0 Z)=Q s:=by simp[World.cell?,b]
 have pf0:f.frozen? (J p 0 Z)=D:=by simp[World.frozen?,b]
 have hpl1:=ai b;have hqp:¬ q=p:=fun e=>x e.symm;clear h g b;go_wp2;have u:=QO.out;cases n
 simp only at u;subst u;refine⟨rfl,_,rfl,.tuple #[],by simp[results,Tryz.results157],rfl,rfl,f,K,rfl⟩
end Go.Proofs.YtkdimgejdocbbaaGreatDoor.Vp
namespace Go.Proofs.YtkdimgejdocbbaaGreatDoor.Vp
open RowKit Go.Maps Ca
def jX (w:E)(S:Spc)(f:E)(b:List Ent)(d:QB):Prop :=
 ∃ (G:ByteArray->Nat) (V:ByteArray->QB),f.ownsRow w.heap.size 124 1 d b.length (jf G b)/\(∀ x∈b,EntAt w S G f (G x.name) (V x.name) x)/\b.Pairwise fun x y=>G x.name≠G y.name
def iJ (w b:E)(r:ResL)(v:QB):Prop:=∃ a c,v=QE #[N I r.code,U r.text,Y a r.chain.length c]/\b.ownsRow w.heap.size 9 1 (Y a r.chain.length c) r.chain.length (bq r.chain)
def zg (w:E)(S:Spc)(b:List Ent × ResL)(e:Ending)(d:E):Prop :=
 ∃ h g i,Below w.heap.size w h/\e=QD (.tuple #[g,i])/\jX h S d b.1 g/\iJ w d b.2 i/\Below w.heap.size w d/\(b.1≠[]->∀ b off n f,0<n->RowIns h b off n f->RowIns d b off n f)
theorem Bv {w:E}{b off n:Nat}{f:Nat->Ins}{a:Option Addr}{m c:Nat}{t:QF}(h:w.heap[b]?=Q (T #[Y a m c] t (0,0)))(i:0<n)(g:RowIns w b off n f):False:=by
 have d:=(g.2 0 i).1;simp only[World.cell?,h,LV,NB] at d;match off,d with
 | 0,d=>simp at d
 | k+1,d=>simp at d
theorem Bw {w:E}{b off n:Nat}{f:Nat->Ins}{z:Int}{x:ByteArray}{a:Option Addr}{m c:Nat}{t:QF}(h:w.heap[b]?=Q (T #[N I z,U x,Y a m c] t (0,0)))(i:0<n)(g:RowIns w b off n f):False:=by
 have d:=(g.2 0 i).1;have h2:=(g.2 0 i).2.2;simp only[World.cell?,h,LV,NB] at d h2;match off,d,h2 with
 | 0,d,h2=>simp at h2
 | 1,d,h2=>simp at d
 | 2,d,h2=>simp at d
 | k+3,d,h2=>simp at d
theorem nP (w:E)(S:Spc)(d:E):jX w S d [] (Y Z 0 0):=⟨fun _=>0,fun _=>Y Z 0 0,⟨rfl,.inl ⟨rfl,rfl⟩⟩,fun _ b=>absurd b nj,List.Pairwise.nil⟩
theorem ik (w b:E)(c:Int)(t:ByteArray):iJ w b ⟨c,t,[]⟩ (QE #[N I c,U t,Y Z 0 0]):=⟨Z,0,rfl,⟨rfl,.inl ⟨rfl,rfl⟩⟩⟩
theorem xB (nm tx:ByteArray)(b f:Int)(g:Option Addr)(h k:Nat)(w:E):Calls Tryz.prog 160 #[QE #[U nm,N I b,N I f,U tx,Y g h k,Y Z 0 0]] w fun e l=>e=QD (if b=2 then QE #[N I 4,U nm,Y Z 0 0] else QE #[N I f,U tx,Y Z 0 0])/\Below w.heap.size w l:=by
 have j:=ae ((Qs w).alloc lr (T #[U nm,N I b,N I f,U tx,Y g h k,Y Z 0 0] 58));by_cases d:b=2
 ·rw[eT d]
  have i:(b == 2)=QC:=by simpa using d
  go_enter Tryz.func160,Tryz.ntmps160;go_wp2;refine bp (v:=QE #[N I 4,U nm,Y Z 0 0]) (by simp[results,Tryz.results160,go_sem]) rfl ⟨rfl,?_⟩;exact((Qs w).alloc lr _).alloc (by simp) _
 ·rw[a8 d]
  have i:(b == 2)=D:=by simpa using d
  go_enter Tryz.func160,Tryz.ntmps160;go_wp2;refine bp (v:=QE #[N I f,U tx,Y Z 0 0]) (by simp[results,Tryz.results160,go_sem]) rfl ⟨rfl,?_⟩;exact j.alloc j.size _
def BSt (w W:E)(u v:QB):Prop:=Below w.heap.size w W/\W.heap[w.heap.size]?=Q (T #[u,v] 26 (0,0))/\W.heap[w.heap.size+1]?=Q (T #[Y Z 0 0] 117 (0,0))/\W.heap[w.heap.size+1+1]?=Q (T #[N I 0,U ⟨#[]⟩,Y Z 0 0] 41 (0,0))
theorem DK (w:E)(u v:QB):BSt w (((w.alloc (T #[u,v] 26)).alloc (T #[Y Z 0 0] 117)).alloc (T #[N I 0,U ⟨#[]⟩,Y Z 0 0] 41)) u v:=by
 refine⟨(((Qs w).alloc lr _).alloc (by simp) _).alloc (by simp<;>omega) _,((((eI (w.heap.size+1) _).alloc (by simp) _).alloc (by simp<;>omega) _).block w.heap.size (by omega)).trans (eL w _),?_,?_⟩
 ·have h2:=eL (w.alloc (T #[u,v] 26)) (T #[Y Z 0 0] 117)
  rw[show(w.alloc (T #[u,v] 26)).heap.size=w.heap.size+1 by simp] at h2;exact(((eI (w.heap.size+2) _).alloc (by simp) _).block (w.heap.size+1) (by omega)).trans h2
 ·have h2:=eL ((w.alloc (T #[u,v] 26)).alloc (T #[Y Z 0 0] 117)) (T #[N I 0,U ⟨#[]⟩,Y Z 0 0] 41)
  rw[show((w.alloc (T #[u,v] 26)).alloc (T #[Y Z 0 0] 117)).heap.size=w.heap.size+1+1 by simp] at h2;exact h2
section
variable {w W W':E}{u v:QB}
theorem BSt.below (h:BSt w W u v)(b:Below W.heap.size W W'):BSt w W' u v :=
 ⟨h.1.trans (b.mono h.1.size),(b.block _ (ai h.2.1)).trans h.2.1,(b.block _ (ai h.2.2.1)).trans h.2.2.1,(b.block _ (ai h.2.2.2)).trans h.2.2.2⟩
theorem BSt.fin (h:BSt w W u v)(f d g b:QB):Below w.heap.size w ((((W.setCell (J (w.heap.size+1) 0 Z) f).setCell (J (w.heap.size+1+1) 0 Z) d).setCell (J (w.heap.size+1+1) 1 Z) g).setCell (J (w.heap.size+1+1) 2 Z) b) :=
 (((h.1.setCell (MU _ 1) f).setCell (MU _ 2) d).setCell (MU _ 2) g).setCell (MU _ 2) b
theorem BSt.args (h:BSt w W u v):W.cell? (J w.heap.size 0 Z)=Q u/\W.cell? (J w.heap.size 1 Z)=Q v/\w.heap.size+3<=W.heap.size :=
 ⟨by simp[World.cell?,h.2.1],by simp[World.cell?,h.2.1],ai h.2.2.2⟩
theorem BSt.row (h:BSt w W u v):w.heap.size+1<W.heap.size/\W.cell? (J (w.heap.size+1) 0 Z)=Q (Y Z 0 0)/\W.frozen? (J (w.heap.size+1) 0 Z)=D :=
 ⟨ai h.2.2.1,by simp[World.cell?,h.2.2.1],by simp[World.frozen?,h.2.2.1]⟩
end
section
variable {S:Spc}{a0 a1:Option Addr}{c0 c1:Nat}
theorem EntAt.setLow {d w:E}{G:ByteArray->Nat}{b:Nat}{v:QB}{x:Ent}(h:EntAt d S G w b v x){k:Nat}(hk:k<d.heap.size)(j:Nat)(u:QB):EntAt d S G (w.setCell (J k j Z) u) b v x:=by obtain⟨⟨act,hb,g⟩,i,f⟩:=h;refine⟨⟨act,(qh _ _ _ _ (show b≠k by omega)).trans hb,g⟩,i,az f (fun e=>?_) _ _⟩;have:=(af f k e).1;omega
theorem lm {f w:E}{b:List Ent}{d:QB}(h:jX f S w b d){k:Nat}(g:k<f.heap.size)(j:Nat)(u:QB):jX f S (w.setCell (J k j Z) u) b d:=by obtain⟨G,V,h1,h2,i⟩:=h;refine⟨G,V,az h1 (fun e=>?_) _ _,fun x l=>(h2 x l).setLow g j u,i⟩;have:=(af h1 k e).1;omega
theorem Bz (w:E):(Instr.makeMap 202 Z).run Tryz.prog w=.ok (.map (Q w.heap.size)) (w.alloc (.map #[] 0)):=by kernel_rfl
theorem tC (S:Spc):dG S [] []<=S.n1:=by have:=KO (p:=iE S [] []) (l:=List.range S.n1);rw[List.length_range] at this;exact this
theorem zi (w:E)(nm:ByteArray)(DQ:SlSource w a0 S.n0 S.f0)(DA:SlTarget w a1 S.n1 S.f1)(hn0:S.n0<=1048576)(hn1:S.n1<=1048576)(n8:∀ i,i<S.n1->aS (S.f1 i))(hT:Tab w)(Fj:Tab2 w)(hP:Pow w):Calls Tryz.prog 81 #[QE #[Y a0 S.n0 c0,Y a1 S.n1 c1],U nm] w fun e w'=>zg w S (bj S nm) e w':=by
 have V0:=ae DQ;have V1:=ae DA;have Ft:=ae n8;have th:=ae hT;have Fh:=ae Fj;have Fl:=ae hP;obtain⟨ck,ur⟩:∃ ck,ck=aU S.n0 S.f0 S.n1 S.f1:=⟨_,rfl⟩
 have QG:=ae ur;obtain⟨kn,At⟩:∃ kn,kn=au nm:=⟨_,rfl⟩
 have W:=ae At;obtain⟨P,n9⟩:∃ P,P=bj S nm:=⟨_,rfl⟩
 have HP:=ae n9;rw[<-n9];clear DQ DA n8 hT Fj hP ur At n9;have hmm:=Bz;have hmf:∀ (fn:Fn) (first ro:Array QB) (w:E),(Instr.makeFunc fn first ro).run Tryz.prog w=.ok (.func fn first ro) w:=fun _ _ _ _=>rfl;have QL:=ae (DK w (Y a0 S.n0 c0) (Y a1 S.n1 c1));obtain⟨s0,s1,zS⟩:=QL.args;go_enter_defers Tryz.func81,Tryz.ntmps81;go_wp2_with fail;generalize ((w.alloc (T #[Y a0 S.n0 c0,Y a1 S.n1 c1] 26)).alloc (T #[Y Z 0 0] 117)).alloc (T #[N I 0,U ⟨#[]⟩,Y Z 0 0] 41)=W0 at QL s0 s1 zS ⊢;refine(lB a0 S.n0 c0 S.f0 a1 S.n1 c1 S.f1 _ (by omega) (by omega) (V0.below QL.1 lr) (V1.below QL.1 lr) Ft (th.below QL.1 th.1)).mono ?_;rintro e w1 ⟨QP,r⟩;rw[<-QG.out] at QP;subst QP;have q:=ae (QL.below r);clear r s0 s1 zS QL;by_cases hc:ck=0;case' pos =>subst hc;go_wp2_with fail;refine(eO nm w1).mono ?_;rintro e j ⟨QP,r⟩;rw[<-W.out] at QP;subst QP;replace q:=ae (q.below r);clear r;cases kn
 case true =>
  have Fi:=ae W.symm;have aq:=ae (SpcOk.of QG.symm);have hq:P=match aL S 60 [] [] nm with | .inl (m,e)=>(m,cR e) | .inr (.inl c)=>([],⟨6,⟨#[]⟩,c⟩) | .inr (.inr d)=>([],⟨7,d,[]⟩):=by rw[HP.out];exact eT ⟨QG.symm,W.symm⟩
  generalize hR:aL S 60 [] [] nm=R at hq;have HR:=ae hR.symm;clear HP hR;subst hq;have QM:=ae q.1;have n6:=ae q.2.2.1;have qr:=ae q.2.2.2;obtain⟨q0,q1,hz2⟩:=q.args;have AM:=ae ((Qs j).alloc lr (.map #[] 0));have AK:=ae (AM.alloc (by simp) (T #[Y a0 S.n0 c0,Y a1 S.n1 c1,.map (Q j.heap.size),Y Z 0 0,Y Z 0 0] 204));have CX:Hid (Ctx j S a0 c0 a1 c1):=⟨V0.below QM lr,V1.below QM lr,aq,Fh.below QM Fh.1,Fl.below QM lr,fun i hi=>by have:=aq.text i hi;unfold maxLen;omega⟩
  have zM:(j.alloc (.map #[] 0)).heap.size=j.heap.size+1:=by simp
  have Bk:Hid (MI j S (j.heap.size+1) j.heap.size (Y a0 S.n0 c0) (Y a1 S.n1 c1) ((j.alloc (.map #[] 0)).alloc (T #[Y a0 S.n0 c0,Y a1 S.n1 c1,.map (Q j.heap.size),Y Z 0 0,Y Z 0 0] 204)) [] [] [] (fun _=>0) (fun _=>Y Z 0 0) (Y Z 0 0) (Y Z 0 0)):=by
   refine⟨AK,AS _,j6 _,?_,⟨rfl,.inl ⟨rfl,rfl⟩⟩,⟨rfl,.inl ⟨rfl,rfl⟩⟩,?_,fun _ hx=>absurd hx nj,List.Pairwise.nil⟩
   ·have h2:=eL (j.alloc (.map #[] 0)) (T #[Y a0 S.n0 c0,Y a1 S.n1 c1,.map (Q j.heap.size),Y Z 0 0,Y Z 0 0] 204)
    rw[zM] at h2;exact h2
   ·refine((AZ j).blk (((eI (j.heap.size+1) _).alloc (by simp) _).block j.heap.size (by omega))).congr fun s=>?_
    simp[dw]
  have Fq:Hid (ed S [] [] 1):=by have h1:=tC S;have h2:=aq.small;unfold ed;show _<=_;simp;omega
  go_wp2_with fail;clear q0 q1;generalize (j.alloc (.map #[] 0)).alloc (T #[Y a0 S.n0 c0,Y a1 S.n1 c1,.map (Q j.heap.size),Y Z 0 0,Y Z 0 0] 204)=W3 at AK Bk ⊢;refine(Bn CX 60 [] [] _ _ _ _ W3 nm rfl Bk (fH S []) Fq Fi).mono ?_;intro e p t;rw[<-HR.out] at t;rcases R with ⟨m,x⟩ | c | d
  ·obtain⟨G',V',mk',md',rfl,hM,hE,B⟩:=t
   obtain⟨Fm,-,hx,Fy⟩:=cP aq 60 [] [] nm m x (fH S []) Fi HR.symm;obtain⟨act,DE,QQ⟩:=(hM.ents x hx).blk;obtain⟨aa,na,ca,rfl⟩:∃ a n c,act=Y a n c:=by
    unfold mF at QQ;split at QQ
    ·obtain⟨_,a,c,e,_⟩:=QQ;exact⟨a,_,c,e⟩
    ·exact⟨_,_,_,QQ⟩
   obtain⟨M,L,rfl⟩:=bX hM.rmd;obtain⟨rc,rt,fd,sm⟩:∃ rc rt,(if x.kind=2 then Value.agg #[N I 4,U x.name,Y Z 0 0] else QE #[N I x.code,U x.text,Y Z 0 0])=QE #[N I rc,U rt,Y Z 0 0]/\cR x=⟨rc,rt,[]⟩:=by
    unfold cR;split
    ·exact⟨_,_,rfl,rfl⟩
    ·exact⟨_,_,rfl,rfl⟩
   have FD:=ae fd;have Fp:=ae sm;have M4:=ae hM;have o:=ae hM.bel;have Fk:=(hM.ents x hx).ge;have ph:=ae DE;obtain⟨l,Fd⟩:∃ l,l=G' x.name:=⟨_,rfl⟩
   rw[<-Fd] at ph Fk ⊢;have SQ:Hid (∀ V:E,V.heap[j.heap.size+1]?=p.heap[j.heap.size+1]?->V.heap[l]?=p.heap[l]?->V.cell? (J (j.heap.size+1) 4 Z)=Q (Y M m.length L)/\V.cell? (J l 0 Z)=Q (U x.name)/\V.cell? (J l 1 Z)=Q (N I x.kind)/\V.cell? (J l 2 Z)=Q (N I x.code)/\V.cell? (J l 3 Z)=Q (U x.text)/\V.cell? (J l 4 Z)=Q (Y aa na ca)/\V.cell? (J l 5 Z)=Q (Y Z 0 0)):=fun V h1 h2=>by obtain⟨-,-,-,-,-,e4,-⟩:=M4.box.facts;obtain⟨-,e0,e1,e2,e3,e5,e6,-,-,-⟩:=ph.facts;exact⟨(cq (a:=(J (j.heap.size+1) 4 Z)) h1).trans e4,(cq (a:=(J l 0 Z)) h2).trans e0,(cq (a:=(J l 1 Z)) h2).trans e1,(cq (a:=(J l 2 Z)) h2).trans e2,(cq (a:=(J l 3 Z)) h2).trans e3,(cq (a:=(J l 4 Z)) h2).trans e5,(cq (a:=(J l 5 Z)) h2).trans e6⟩
   have QN:=ai hM.box;have QK:=ai ph.out;clear hM hE B Fm hx Fy DE QQ fd sm Fd;go_wp2_with fail;refine wp_region_noPanic ?_;refine wp_region_held_drew (S:=fun V=>V.cell? (J (j.heap.size+1) 4 Z)=Q (Y M m.length L)/\V.cell? (J l 0 Z)=Q (U x.name)/\V.cell? (J l 1 Z)=Q (N I x.kind)/\V.cell? (J l 2 Z)=Q (N I x.code)/\V.cell? (J l 3 Z)=Q (U x.text)/\V.cell? (J l 4 Z)=Q (Y aa na ca)/\V.cell? (J l 5 Z)=Q (Y Z 0 0)) (by as_aux_lemma=>kernel_rfl) (SQ _ rfl rfl) (fun hS=>?_);have HS:=ae hS;clear hS
   iterate 6
    first | refine bS 0 (v:=?_) rfl rfl (by as_aux_lemma=>kernel_rfl) (fun _ _ _ h=>h) rfl ?_ HS ?_ | refine bS 2 (v:=?_) rfl rfl (by as_aux_lemma=>kernel_rfl) (fun _ _ _ h=>h) rfl ?_ HS ?_
    rotate_left
    ·(intro wz Fz;obtain⟨s0,s1,s2,s3,s4,s5,s6⟩:=Fz;go_simp)
     (try with_reducible rfl)
    (try simp only[Act.put,nzL])
   refine bN (i:=6) rfl (by as_aux_lemma=>kernel_rfl) (fun K B=>?_);go_simp;go_at_call 160;refine(xB x.name x.text x.kind x.code aa na ca _).mono ?_;rintro e G ⟨QP,r⟩;rw[FD.out] at QP;subst QP;have A:Hid (Below p.heap.size p G):=⟨r.os,r.tape,r.output,r.size,r.block⟩
   clear r HS;have HS:=ae (SQ G (A.block _ QN) (A.block _ QK));refine B _ _ HS ?_;clear B K
   (try simp only[Act.put,nzL])
   have z:=ae (q.below (o.trans (A.mono o.size)));obtain⟨hpl,O,Fr⟩:=z.row;obtain⟨rl,r0,r1,QO,C⟩:=cV z.2.2.2;have FA:=C 0;have Fo:=C 1;have Fv:=C 2;clear C;have Fw:Hid (jX j S G m (Y M m.length L)):=⟨G',V',own_below M4.rmd A lr,fun y hy=>(M4.ents y hy).kx (KX.of_below (X:=XN) A lr M4.lt) (fun h=>h) (fun _ _ h=>h),M4.dist⟩
   have mv:w.heap.size+1≠j.heap.size+1:=by omega
   have la:w.heap.size+1≠l:=by omega
   refine bN (i:=7) rfl (by as_aux_lemma=>kernel_rfl) (fun K B=>?_);go_simp;have Fx:=ae (SQ (G.setCell (J (w.heap.size+1) 0 Z) (Y M m.length L)) ((qh _ _ _ _ mv.symm).trans (A.block _ QN)) ((qh _ _ _ _ la.symm).trans (A.block _ QK)));refine B _ _ Fx ?_;clear B K HS
   (try simp only[Act.put])
   have H:w.heap.size+1+1≠j.heap.size+1:=by omega
   have QJ:w.heap.size+1+1≠l:=by omega
   have FC:=ae (SQ ((((G.setCell (J (w.heap.size+1) 0 Z) (Y M m.length L)).setCell (J (w.heap.size+1+1) 0 Z) (N I rc)).setCell (J (w.heap.size+1+1) 1 Z) (U rt)).setCell (J (w.heap.size+1+1) 2 Z) (Y Z 0 0)) ((qh _ _ _ _ H.symm).trans ((qh _ _ _ _ H.symm).trans ((qh _ _ _ _ H.symm).trans ((qh _ _ _ _ mv.symm).trans (A.block _ QN))))) ((qh _ _ _ _ QJ.symm).trans ((qh _ _ _ _ QJ.symm).trans ((qh _ _ _ _ QJ.symm).trans ((qh _ _ _ _ la.symm).trans (A.block _ QK))))));have Fs:=ae (lm (lm (lm (lm Fw (show w.heap.size+1<j.heap.size by omega) 0 (Y M m.length L)) (show w.heap.size+1+1<j.heap.size by omega) 0 (N I rc)) (show w.heap.size+1+1<j.heap.size by omega) 1 (U rt)) (show w.heap.size+1+1<j.heap.size by omega) 2 (Y Z 0 0));refine bN (i:=8) rfl (by as_aux_lemma=>kernel_rfl) (fun K B=>?_);go_simp;refine B _ _ FC ?_;clear B K
   (try simp only[Act.put])
   refine wpAnyH_done (by as_aux_lemma=>kernel_rfl) ?_ _;refine NoPanic.normal ?_;go_wp2_with fail;refine leaves_cons (f:=157) (args:=#[.pointer (Q (J (w.heap.size+1) 0 Z)),.pointer (Q (J (w.heap.size+1+1) 0 Z))]) (by simp) (by simp[go_sem]) ?_;refine(xA (J (w.heap.size+1) 0 Z) (J (w.heap.size+1+1) 0 Z) _).mono ?_;rintro e u' w6 ⟨rfl,rfl,rfl⟩;show Leaves _ _ _ _ [] .returning _;refine⟨.tuple #[Y M m.length L,QE #[N I rc,U rt,Y Z 0 0]],by simp[results,Tryz.results81,go_sem,O,r0,r1,QO],?_⟩;refine⟨j,_,_,QM,rfl,Fs,by rw[Fp.out];exact ik _ _ _ _,z.fin _ _ _ _,fun _ b off n f hn0 bt=>?_⟩;have Fu:b≠w.heap.size+1:=fun e=>Bv (by rw[e];exact n6) hn0 bt;have n7:b≠w.heap.size+1+1:=fun e=>Bw (by rw[e];exact qr) hn0 bt;exact((((((bt.below o lr).below A lr).setOther _ Fu.symm _).setOther _ n7.symm _).setOther _ n7.symm _).setOther _ n7.symm _)
  ·obtain⟨u,rfl,h1,h2⟩:=t
   obtain⟨g,cu,rfl⟩:=bX h1;have o:=ae (AK.trans h2);have O4:=ae h1;go_wp2_with fail;have ld:p.heap[w.heap.size+1]?=_:=(o.block _ (by omega)).trans n6;have ex:p.heap[w.heap.size+1+1]?=_:=(o.block _ (by omega)).trans qr;refine leaves_cons (f:=157) (args:=#[.pointer (Q (J (w.heap.size+1) 0 Z)),.pointer (Q (J (w.heap.size+1+1) 0 Z))]) (by simp) (by simp[go_sem]) ?_;refine(mU (w.heap.size+1) (w.heap.size+1+1) 269 _ [] 6 ⟨#[]⟩ g c.length cu p (oP g c.length cu p) _ _ _ _ _ _ ld ex (by omega)).mono ?_;rintro e u' w6 ⟨rfl,rfl,G,QH,rfl⟩;have OB:Hid (∀ k,k<j.heap.size->(Value.slice g c.length cu).ownBlock≠Q k):=fun k hk e=>by have:=(af O4 k e).1;omega
   have z:=ae (q.below (o.trans (QH.mono o.size)));obtain⟨hpl,O,-⟩:=z.row;obtain⟨rl,r0,r1,QO,-⟩:=cV z.2.2.2;show Leaves _ _ _ _ [] .returning _;refine⟨.tuple #[Y Z 0 0,QE #[N I 6,U ⟨#[]⟩,(Y g c.length cu)]],by simp[results,Tryz.results81,go_sem,O,r0,r1,QO],?_⟩;exact⟨j,_,_,QM,rfl,nP _ _ _,⟨g,cu,rfl,aI (az (az (az (az (own_below O4 QH lr) (OB _ (by omega)) _ _) (OB _ (by omega)) _ _) (OB _ (by omega)) _ _) (OB _ (by omega)) _ _) (by omega)⟩,z.fin _ _ _ _,fun h=>absurd rfl h⟩
  ·obtain⟨rfl,h2⟩:=t
   have o:=ae (AK.trans h2);go_wp2_with fail;have ld:p.heap[w.heap.size+1]?=_:=(o.block _ (by omega)).trans n6;have ex:p.heap[w.heap.size+1+1]?=_:=(o.block _ (by omega)).trans qr;refine leaves_cons (f:=157) (args:=#[.pointer (Q (J (w.heap.size+1) 0 Z)),.pointer (Q (J (w.heap.size+1+1) 0 Z))]) (by simp) (by simp[go_sem]) ?_;refine(mU (w.heap.size+1) (w.heap.size+1+1) 271 _ [] 7 d Z 0 0 p (qZ d p) _ _ _ _ _ _ ld ex (by omega)).mono ?_;rintro e u' w6 ⟨rfl,rfl,G,QH,rfl⟩;have z:=ae (q.below (o.trans (QH.mono o.size)));obtain⟨hpl,O,-⟩:=z.row;obtain⟨rl,r0,r1,QO,-⟩:=cV z.2.2.2;show Leaves _ _ _ _ [] .returning _;refine⟨.tuple #[Y Z 0 0,QE #[N I 7,U d,(Y Z 0 0)]],by simp[results,Tryz.results81,go_sem,O,r0,r1,QO],?_⟩;exact⟨j,_,_,QM,rfl,nP _ _ _,ik _ _ _ _,z.fin _ _ _ _,fun h=>absurd rfl h⟩
 all_goals
  have hq:P=([],⟨9,⟨#[]⟩,[]⟩):=by rw[HP.out];exact a8 fun h=>by first | exact hc (QG.trans h.1) | exact absurd (W.trans h.2) (by simp)
  clear HP;subst hq
  (try have hc2:(ck == 0)=D:=by simpa using hc)
  obtain⟨hpl,O,Fr⟩:=q.row;obtain⟨rl,r0,r1,QO,C⟩:=cV q.2.2.2;have FA:=C 0;have Fo:=C 1;have Fv:=C 2;clear C;go_wp2_with fail;refine⟨.tuple #[Y Z 0 0,QE #[N I 9,U ⟨#[]⟩,Y Z 0 0]],by simp[results,Tryz.results81,go_sem,O,r0,r1,QO],?_⟩;exact⟨w,_,_,eI _ _,rfl,nP _ _ _,ik _ _ _ _,q.fin _ _ _ _,fun h=>absurd rfl h⟩
end
end Go.Proofs.YtkdimgejdocbbaaGreatDoor.Vp
namespace Go.Proofs.YtkdimgejdocbbaaGreatDoor.Vp
open RowKit
section
variable {S:Spc}{a0 a1:Option Addr}{c0 c1:Nat}
end
end Go.Proofs.YtkdimgejdocbbaaGreatDoor.Vp
