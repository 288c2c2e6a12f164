import Derived.Deep.RegionHeld3
import Derived.Test.YtpmnbjkjpnclaaaGreatDoorKI
import Derived.Defers
import Derived.Recover
set_option maxRecDepth 1000000
set_option maxHeartbeats 8000000
set_option linter.unusedSimpArgs false
open Go renaming Addr.mk->N,Value.slice->Y,Value.string->U,Value.int->Q,Value.bool->ZC,Value.agg->ZG,Obj.cells->J,IntKind.i64->I,World->M,Value->ZB,TypeId->ZH,Ending.returned->ZD,World.heap->A,World.cell?->z,Proofs.Tryz.prog->Pg
open Option renaming none->Z,some->T
open Bool renaming false->ZA,true->ZF
open Array renaming size->B
namespace Go.Proofs.YtpmnbjkjpnclaaaGreatDoor.Vp
open Tryz RowKit Go.Maps
variable {w:M}{b off n m:Nat}{f:Nat->Ins}{a:Option Addr}{t:ZH}
theorem qy (v:ZB)(b:ZH)(w:M):(Instr.typeAssert (.iface 235 v) b 235 ZF).run Pg w=.ok (.tuple #[v,ZC ZF]) w:=by kernel_rfl
theorem qA (v:ZB)(b:ZH)(w:M):(Instr.typeAssert (.iface 237 v) b 235 ZF).run Pg w=.ok (.tuple #[ZG #[Y Z 0 0],ZC ZA]) w:=by kernel_rfl
theorem vB (v:ZB)(b:ZH)(w:M):(Instr.typeAssert (.iface 237 v) b 237 ZF).run Pg w=.ok (.tuple #[v,ZC ZF]) w:=by kernel_rfl
theorem oM (a:Option Addr)(n cap:Nat)(w:M):Calls Pg 111 #[.iface 235 (ZG #[Y a n cap])] w λe b=>e=ZD (ZG #[Q I 6,U ⟨#[]⟩,Y a n cap])/\Below (B (A w)) w b:=by have t1:=qy;have t2:=qA;have t3:=vB;go_enter func111,ntmps111;go_wp2;refine bp (v:=ZG #[Q I 6,U ⟨#[]⟩,Y a n cap]) (by simp[results,results111,go_sem]) rfl ⟨rfl,?_⟩;exact((BS w).alloc ly _).alloc (by simp) _
theorem qV (d:ByteArray)(w:M):Calls Pg 111 #[.iface 237 (ZG #[U d])] w λe b=>e=ZD (ZG #[Q I 7,U d,Y Z 0 0])/\Below (B (A w)) w b:=by have t1:=qy;have t2:=qA;have t3:=vB;go_enter func111,ntmps111;go_wp2;refine bp (v:=ZG #[Q I 7,U d,Y Z 0 0]) (by simp[results,results111,go_sem]) rfl ⟨rfl,?_⟩;exact((BS w).alloc ly _).alloc (by simp) _
theorem xx (p q:Addr)(w:M):CallsD Pg 110 #[.pointer (T p),.pointer (T q)] .returning w λe g h=>e=ZD (.tuple #[])/\g=.returning/\h=w:=by
 have hq:∀w:M,(binOp BinOp.neq 20 .nilIface .nilIface).run Pg w=.ok (ZC ZA) w:=λ_=>by kernel_rfl
 refine callsD_of_wpS func110 rfl λb cs f=>?_;apply wpS_seq;apply wpS_region;simp[wpOpsS,go_sem,recoverD,f,ntmps110,Exit.thenS];refine wpS_of_wp ?_;go_wp2;cases b
 simp_all[bodyPostS,results,results110]
theorem mC (p q:Nat)(ZL:ZH)(m:ZB)(b:List PanicEntry)(c:Int)(t:ByteArray)(s:Option Addr)(sn x:Nat)(w:M)(H:Calls Pg 111 #[.iface ZL m] w λe l=>e=ZD (ZG #[Q I c,U t,Y s sn x])/\Below (B (A w)) w l)(y ZQ D L:ZB)(E ZR:ZH)(r:w.heap[p]?=T (J #[y] E (0,0)))(o:w.heap[q]?=T (J #[ZQ,D,L] ZR (0,0)))(u:¬ p=q):CallsD Pg 110 #[.pointer (T (N p 0 Z)),.pointer (T (N q 0 Z))] (.panicking ({ v:=.iface ZL m,recovered:=ZA } :: b)) w λe C l=>e=ZD (.tuple #[])/\C=.panicking ({ v:=.iface ZL m,recovered:=ZF } :: b)/\∃g,Below (B (A w)) w g/\l=(((g.setCell (N p 0 Z) (Y Z 0 0)).setCell (N q 0 Z) (Q I c)).setCell (N q 1 Z) (U t)).setCell (N q 2 Z) (Y s sn x):=by
 refine callsD_of_wpS func110 rfl λj cs n=>?_;apply wpS_seq;apply wpS_region;simp[wpOpsS,go_sem,recoverD,n,ntmps110,Exit.thenS];have hnq:∀(w:M) (v:ZB),(binOp BinOp.neq 20 (.iface ZL v) .nilIface).run Pg w=.ok (ZC ZF) w:=λ_ _=>by kernel_rfl
 have K:=ae n;have ZP:=ae r;have ZO:=ae o;have hpl:=ag r;have ZS:=ag o;clear n r o;refine wpS_of_wp ?_;go_wp2_with fail;refine H.mono ?_;rintro e g ⟨rfl,h⟩;have G:=ae h;have f:=(h.block p hpl).trans ZP;obtain⟨rl,r0,r1,r2,i⟩:=dG ((h.block q ZS).trans ZO);have rf0:=i 0;have rf1:=i 1;have rf2:=i 2;have p0:z g (N p 0 Z)=T y:=by simp[World.cell?,f]
 have pf0:g.frozen? (N p 0 Z)=ZA:=by simp[World.frozen?,f]
 have hpl1:=ag f;have hqp:¬ q=p:=λe=>u e.symm;clear i h f;go_wp2;have ZT:=K.out;cases j
 simp only at ZT;subst ZT;refine⟨rfl,_,rfl,.tuple #[],by simp[results,results110],rfl,rfl,g,G,rfl⟩
open Ca
def lM (w:M)(S:Spc)(g:M)(b:List Ent)(f:ZB):Prop :=
 ∃(G:ByteArray->Nat) (V:ByteArray->ZB),g.ownsRow (B (A w)) 172 1 f b.length (lK G b)/\(∀x∈b,EntAt w S G g (G x.e) (V x.e) x)/\b.Pairwise λx y=>G x.e≠G y.e
def mh (w b:M)(r:iO)(v:ZB):Prop:=∃a c,v=ZG #[Q I r.E,U r.y,Y a r.w.length c]/\b.ownsRow (B (A w)) 9 1 (Y a r.w.length c) r.w.length (bo r.w)
def yZ (w:M)(S:Spc)(b:List Ent × iO)(e:Ending)(g:M):Prop :=
 ∃i h j,Below (B (A w)) w i/\e=ZD (.tuple #[h,j])/\lM i S g b.1 h/\mh w g b.2 j/\Below (B (A w)) w g/\(b.1≠[]->∀b off n f,0<n->RowIns i b off n f->RowIns g b off n f)
theorem Bt{c:Nat}(h:w.heap[b]?=T (J #[Y a m c] t (0,0)))(hn:0<n)(i:RowIns w b off n f):False:=by
 have g:=(i.2 0 hn).1;simp only[World.cell?,h,OU,KL] at g;match off,g with
 |0,g=>simp at g
 |k+1,g=>simp at g
theorem Bu{ZT:Int}{x:ByteArray}{c:Nat}(h:w.heap[b]?=T (J #[Q I ZT,U x,Y a m c] t (0,0)))(hn:0<n)(i:RowIns w b off n f):False:=by
 have g:=(i.2 0 hn).1;have h2:=(i.2 0 hn).2.2;simp only[World.cell?,h,OU,KL] at g h2;match off,g,h2 with
 |0,g,h2=>simp at h2
 |1,g,h2=>simp at g
 |2,g,h2=>simp at g
 |k+3,g,h2=>simp at g
theorem nI (w:M)(S:Spc)(b:M):lM w S b [] (Y Z 0 0):=⟨λ_=>0,λ_=>Y Z 0 0,⟨rfl,.inl ⟨rfl,rfl⟩⟩,λ_ f=>absurd f nj,List.Pairwise.nil⟩
theorem ji (w b:M)(c:Int)(t:ByteArray):mh w b ⟨c,t,[]⟩ (ZG #[Q I c,U t,Y Z 0 0]):=⟨Z,0,rfl,⟨rfl,.inl ⟨rfl,rfl⟩⟩⟩
theorem xy (nm tx:ByteArray)(b f:Int)(m:Option Addr)(l j:Nat)(w:M):Calls Pg 44 #[ZG #[U nm,Q I b,Q I f,U tx,Y m l j,Y Z 0 0]] w λe n=>e=ZD (if b=2 then ZG #[Q I 4,U nm,Y Z 0 0] else ZG #[Q I f,U tx,Y Z 0 0])/\Below (B (A w)) w n:=by
 have h:=ae ((BS w).alloc ly (J #[U nm,Q I b,Q I f,U tx,Y m l j,Y Z 0 0] 46));by_cases g:b=2
 ·rw[nL g];have i:(b == 2)=ZF:=by simpa using g
  go_enter func44,ntmps44;go_wp2;refine bp (v:=ZG #[Q I 4,U nm,Y Z 0 0]) (by simp[results,TQ,go_sem]) rfl ⟨rfl,?_⟩;exact((BS w).alloc ly _).alloc (by simp) _
 ·rw[eT g];have i:(b == 2)=ZA:=by simpa using g
  go_enter func44,ntmps44;go_wp2;refine bp (v:=ZG #[Q I f,U tx,Y Z 0 0]) (by simp[results,TQ,go_sem]) rfl ⟨rfl,?_⟩;exact h.alloc h.size _
def BSt (w W:M)(u v:ZB):Prop:=Below (B (A w)) w W/\W.heap[B (A w)]?=T (J #[u,v] 27 (0,0))/\W.heap[B (A w)+1]?=T (J #[Y Z 0 0] 94 (0,0))/\W.heap[B (A w)+1+1]?=T (J #[Q I 0,U ⟨#[]⟩,Y Z 0 0] 39 (0,0))
theorem Ed (w:M)(u v:ZB):BSt w (((w.alloc (J #[u,v] 27)).alloc (J #[Y Z 0 0] 94)).alloc (J #[Q I 0,U ⟨#[]⟩,Y Z 0 0] 39)) u v:=by
 refine⟨(((BS w).alloc ly _).alloc (by simp) _).alloc (by simp<;>omega) _,((((cM (B (A w)+1) _).alloc (by simp) _).alloc (by simp<;>omega) _).block (B (A w)) (by omega)).trans (gM w _),?_,?_⟩;{have h2:=gM (w.alloc (J #[u,v] 27)) (J #[Y Z 0 0] 94);rw[show(w.alloc (J #[u,v] 27)).heap.size=B (A w)+1 by simp] at h2;exact(((cM (B (A w)+2) _).alloc (by simp) _).block (B (A w)+1) (by omega)).trans h2};{have h2:=gM ((w.alloc (J #[u,v] 27)).alloc (J #[Y Z 0 0] 94)) (J #[Q I 0,U ⟨#[]⟩,Y Z 0 0] 39);rw[show((w.alloc (J #[u,v] 27)).alloc (J #[Y Z 0 0] 94)).heap.size=B (A w)+1+1 by simp] at h2;exact h2}
section
variable {w W W':M}{u v:ZB}
theorem BSt.aa (h:BSt w W u v)(b:Below (B (A W)) W W'):BSt w W' u v :=
 ⟨h.1.trans (b.mono h.1.size),(b.block _ (ag h.2.1)).trans h.2.1,(b.block _ (ag h.2.2.1)).trans h.2.2.1,(b.block _ (ag h.2.2.2)).trans h.2.2.2⟩
theorem BSt.fin (h:BSt w W u v)(b g f i:ZB):Below (B (A w)) w ((((W.setCell (N (B (A w)+1) 0 Z) b).setCell (N (B (A w)+1+1) 0 Z) g).setCell (N (B (A w)+1+1) 1 Z) f).setCell (N (B (A w)+1+1) 2 Z) i) :=
 (((h.1.setCell (Q0 _ 1) b).setCell (Q0 _ 2) g).setCell (Q0 _ 2) f).setCell (Q0 _ 2) i
theorem BSt.args (h:BSt w W u v):z W (N (B (A w)) 0 Z)=T u/\z W (N (B (A w)) 1 Z)=T v/\(B (A w))+3<=B (A W) :=
 ⟨by simp[World.cell?,h.2.1],by simp[World.cell?,h.2.1],ag h.2.2.2⟩
theorem BSt.row (h:BSt w W u v):B (A w)+1<B (A W)/\z W (N (B (A w)+1) 0 Z)=T (Y Z 0 0)/\W.frozen? (N (B (A w)+1) 0 Z)=ZA :=
 ⟨ag h.2.2.1,by simp[World.cell?,h.2.2.1],by simp[World.frozen?,h.2.2.1]⟩
end
section
variable {S:Spc}{a0 a1:Option Addr}{c0 c1:Nat}
theorem EntAt.setLow{f:M}{G:ByteArray->Nat}{v:ZB}{x:Ent}(h:EntAt f S G w b v x){k:Nat}(hk:k<B (A f))(j:Nat)(u:ZB):EntAt f S G (w.setCell (N k j Z) u) b v x:=by obtain⟨⟨act,hb,i⟩,l,g⟩:=h;refine⟨⟨act,(qh _ _ _ _ (show b≠k by omega)).trans hb,i⟩,l,ay g (λe=>?_) _ _⟩;have:=(af g k e).1;omega
theorem kq{g:M}{b:List Ent}{f:ZB}(h:lM g S w b f){k:Nat}(l:k<B (A g))(j:Nat)(u:ZB):lM g S (w.setCell (N k j Z) u) b f:=by obtain⟨G,V,h1,h2,i⟩:=h;refine⟨G,V,ay h1 (λe=>?_) _ _,λx m=>(h2 x m).setLow l j u,i⟩;have:=(af h1 k e).1;omega
theorem Bv (w:M):(Instr.makeMap 169 Z).run Pg w=.ok (.map (T (B (A w)))) (w.alloc (.map #[] 0)):=by kernel_rfl
theorem tz (S:Spc):du S [] []<=S.n1:=by have:=NU (p:=iy S [] []) (l:=List.range S.n1);rw[List.length_range] at this;exact this
theorem zb (w:M)(nm:ByteArray)(Fd:SlSource w a0 S.n0 S.f0)(CD:SlTarget w a1 S.n1 S.f1)(hn0:S.n0<=1048576)(hn1:S.n1<=1048576)(ld:∀i,i<S.n1->aY (S.f1 i))(hT:Tab w)(At:Tab2 w)(hP:Pow w):Calls Pg 54 #[ZG #[Y a0 S.n0 c0,Y a1 S.n1 c1],U nm] w λe w'=>yZ w S (aX S nm) e w':=by
 have V0:=ae Fd;have V1:=ae CD;have F3:=ae ld;have FM:=ae hT;have ur:=ae At;have F9:=ae hP;obtain⟨ck,FK⟩:∃ck,ck=be S.n0 S.f0 S.n1 S.f1:=⟨_,rfl⟩
 have W:=ae FK;obtain⟨kn,Bk⟩:∃kn,kn=aA nm:=⟨_,rfl⟩
 have ZJ:=ae Bk;obtain⟨P,ph⟩:∃P,P=aX S nm:=⟨_,rfl⟩
 have HP:=ae ph;rw[<-ph];clear Fd CD ld hT At hP FK Bk ph;have hmm:=Bv;have hmf:∀(fn:Fn) (first cap:Array ZB) (w:M),(Instr.makeFunc fn first cap).run Pg w=.ok (.func fn first cap) w:=λ_ _ _ _=>rfl;have G:=ae (Ed w (Y a0 S.n0 c0) (Y a1 S.n1 c1));obtain⟨s0,s1,zS⟩:=G.args;go_enter_defers func54,ntmps54;go_wp2_with fail;generalize World.alloc (World.alloc (World.alloc w _) _) _=W0 at G s0 s1 zS ⊢;refine(qL a0 S.n0 c0 S.f0 a1 S.n1 c1 S.f1 _ (by omega) (by omega) (V0.aa G.1 ly) (V1.aa G.1 ly) F3 (FM.aa G.1 FM.1)).mono ?_;rintro e w1 ⟨D,p⟩;rw[<-W.out] at D;subst D;have q:=ae (G.aa p);clear p s0 s1 zS G;by_cases hc:ck=0;case' pos =>subst hc;go_wp2_with fail;refine(eh nm w1).mono ?_;rintro e j ⟨D,p⟩;rw[<-ZJ.out] at D;subst D;replace q:=ae (q.aa p);clear p;cases kn
 case true =>
  have Fk:=ae ZJ.symm;have aq:=ae (SpcOk.of W.symm);have hq:P=match aQ S 60 [] [] nm with | .inl (m,e)=>(m,cI e) | .inr (.inl c)=>([],⟨6,⟨#[]⟩,c⟩) | .inr (.inr d)=>([],⟨7,d,[]⟩):=by rw[HP.out];exact nL ⟨W.symm,ZJ.symm⟩
  generalize hR:aQ S 60 [] [] nm=R at hq;have HR:=ae hR.symm;clear HP hR;subst hq;have ZN:=ae q.1;have ex:=ae q.2.2.1;have sm:=ae q.2.2.2;obtain⟨q0,q1,hz2⟩:=q.args;have AM:=ae ((BS j).alloc ly (.map #[] 0));have AK:=ae (AM.alloc (by simp) (J #[Y a0 S.n0 c0,Y a1 S.n1 c1,.map (T (B (A j))),Y Z 0 0,Y Z 0 0] 171));have CX:Hid (Ctx j S a0 c0 a1 c1):=⟨V0.aa ZN ly,V1.aa ZN ly,aq,ur.aa ZN ur.1,F9.aa ZN ly,λi hi=>by have:=aq.y i hi;unfold maxLen;omega⟩
  have zM:(j.alloc (.map #[] 0)).heap.size=B (A j)+1:=by simp
  have DE:Hid (MI j S (B (A j)+1) (B (A j)) (Y a0 S.n0 c0) (Y a1 S.n1 c1) ((j.alloc (.map #[] 0)).alloc (J #[Y a0 S.n0 c0,Y a1 S.n1 c1,.map (T (B (A j))),Y Z 0 0,Y Z 0 0] 171)) [] [] [] (λ_=>0) (λ_=>Y Z 0 0) (Y Z 0 0) (Y Z 0 0)):=by
   refine⟨AK,JH _,nX _,?_,⟨rfl,.inl ⟨rfl,rfl⟩⟩,⟨rfl,.inl ⟨rfl,rfl⟩⟩,?_,λ_ hx=>absurd hx nj,List.Pairwise.nil⟩;{have h2:=gM (j.alloc (.map #[] 0)) (J #[Y a0 S.n0 c0,Y a1 S.n1 c1,.map (T (B (A j))),Y Z 0 0,Y Z 0 0] 171);rw[zM] at h2;exact h2};{refine((AR j).ad (((cM (B (A j)+1) _).alloc (by simp) _).block (B (A j)) (by omega))).congr λs=>?_;simp[de]}
  have Ga:Hid (dP S [] [] 1):=by have h1:=tz S;have h2:=aq.ax;unfold dP;show _<=_;simp;omega
  go_wp2_with fail;clear q0 q1;generalize World.alloc (World.alloc j _) _=W3 at AK DE ⊢;refine(Bh CX 60 [] [] _ _ _ _ W3 nm rfl DE (iP S []) Ga Fk).mono ?_;intro e r t;rw[<-HR.out] at t;rcases R with ⟨m,x⟩|c|d
  ·obtain⟨G',V',mk',md',rfl,hM,hE,ZS⟩:=t;obtain⟨F7,-,hx,FQ⟩:=ey aq 60 [] [] nm m x (iP S []) Fk HR.symm;obtain⟨act,DS,E⟩:=(hM.ao x hx).ad;obtain⟨aa,na,ca,rfl⟩:∃a n c,act=Y a n c:=by
    unfold oI at E;split at E;{obtain⟨_,a,c,e,_⟩:=E;exact⟨a,_,c,e⟩};{exact⟨_,_,_,E⟩}
   obtain⟨H,ZQ,rfl⟩:=ct hM.W;obtain⟨rc,rt,th,Fm⟩:∃rc rt,(if x.H=2 then Value.agg #[Q I 4,U x.e,Y Z 0 0] else ZG #[Q I x.E,U x.y,Y Z 0 0])=ZG #[Q I rc,U rt,Y Z 0 0]/\cI x=⟨rc,rt,[]⟩:=by
    unfold cI;split;{exact⟨_,_,rfl,rfl⟩};{exact⟨_,_,rfl,rfl⟩}
   have FW:=ae th;have FX:=ae Fm;have M4:=ae hM;have o:=ae hM.X;have FO:=(hM.ao x hx).ge;have bt:=ae DS;obtain⟨l,DQ⟩:∃l,l=G' x.e:=⟨_,rfl⟩
   rw[<-DQ] at bt FO ⊢;have SQ:Hid (∀V:M,V.heap[B (A j)+1]?=r.heap[B (A j)+1]?->V.heap[l]?=r.heap[l]?->z V (N (B (A j)+1) 4 Z)=T (Y H m.length ZQ)/\z V (N l 0 Z)=T (U x.e)/\z V (N l 1 Z)=T (Q I x.H)/\z V (N l 2 Z)=T (Q I x.E)/\z V (N l 3 Z)=T (U x.y)/\z V (N l 4 Z)=T (Y aa na ca)/\z V (N l 5 Z)=T (Y Z 0 0)):=λV h1 h2=>by obtain⟨-,-,-,-,-,e4,-⟩:=M4.ab.K;obtain⟨-,e0,e1,e2,e3,e5,e6,-,-,-⟩:=bt.K;exact⟨(cq (a:=(N (B (A j)+1) 4 Z)) h1).trans e4,(cq (a:=(N l 0 Z)) h2).trans e0,(cq (a:=(N l 1 Z)) h2).trans e1,(cq (a:=(N l 2 Z)) h2).trans e2,(cq (a:=(N l 3 Z)) h2).trans e3,(cq (a:=(N l 4 Z)) h2).trans e5,(cq (a:=(N l 5 Z)) h2).trans e6⟩
   have ZM:=ag hM.ab;have ZL:=ag bt.out;clear hM hE ZS F7 hx FQ DS E th Fm DQ;go_wp2_with fail;refine wp_region_noPanic ?_;refine wp_region_held_drew (S:=λV=>z V (N (B (A j)+1) 4 Z)=T (Y H m.length ZQ)/\z V (N l 0 Z)=T (U x.e)/\z V (N l 1 Z)=T (Q I x.H)/\z V (N l 2 Z)=T (Q I x.E)/\z V (N l 3 Z)=T (U x.y)/\z V (N l 4 Z)=T (Y aa na ca)/\z V (N l 5 Z)=T (Y Z 0 0)) (by as_aux_lemma=>kernel_rfl) (SQ _ rfl rfl) λhS=>?_;have HS:=ae hS;clear hS;iterate 6
    first|refine aR 0 (v:=?_) rfl rfl (by as_aux_lemma=>kernel_rfl) (λ_ _ _ h=>h) rfl ?_ HS ?_|refine aR 2 (v:=?_) rfl rfl (by as_aux_lemma=>kernel_rfl) (λ_ _ _ h=>h) rfl ?_ HS ?_
    rotate_left
    ·(rintro wz ⟨s0,s1,s2,s3,s4,s5,s6⟩;go_simp)
     (try with_reducible rfl)
    (try simp only[Act.put,nzL])
   refine aI (i:=6) rfl (by as_aux_lemma=>kernel_rfl) λK ZS=>?_;go_simp;go_at_call 44;refine(xy x.e x.y x.H x.E aa na ca _).mono ?_;rintro e L ⟨D,p⟩;rw[FW.out] at D;subst D;have ZR:Hid (Below (B (A r)) r L):=⟨p.os,p.tape,p.output,p.size,p.block⟩
   clear p HS;have HS:=ae (SQ L (ZR.block _ ZM) (ZR.block _ ZL));refine ZS _ _ HS ?_;clear ZS K
   (try simp only[Act.put,nzL])
   have ZT:=ae (q.aa (o.trans (ZR.mono o.size)));obtain⟨hpl,O,Gc⟩:=ZT.row;obtain⟨rl,r0,r1,ZK,C⟩:=dG ZT.2.2.2;have FP:=C 0;have FY:=C 1;have FU:=C 2;clear C;have FZ:Hid (lM j S L m (Y H m.length ZQ)):=⟨G',V',own_below M4.W ZR ly,λy hy=>(M4.ao y hy).kx (KX.q (X:=XN) ZR ly M4.lt) (λh=>h) (λ_ _ h=>h),M4.dist⟩
   have qr:B (A w)+1≠B (A j)+1:=by omega
   have mv:B (A w)+1≠l:=by omega
   refine aI (i:=7) rfl (by as_aux_lemma=>kernel_rfl) λK ZS=>?_;go_simp;have Ge:=ae (SQ (L.setCell (N (B (A w)+1) 0 Z) (Y H m.length ZQ)) ((qh _ _ _ _ qr.symm).trans (ZR.block _ ZM)) ((qh _ _ _ _ mv.symm).trans (ZR.block _ ZL)));refine ZS _ _ Ge ?_;clear ZS K HS
   (try simp only[Act.put])
   have ZP:B (A w)+1+1≠B (A j)+1:=by omega
   have ZO:B (A w)+1+1≠l:=by omega
   have FV:=ae (SQ ((((L.setCell (N (B (A w)+1) 0 Z) (Y H m.length ZQ)).setCell (N (B (A w)+1+1) 0 Z) (Q I rc)).setCell (N (B (A w)+1+1) 1 Z) (U rt)).setCell (N (B (A w)+1+1) 2 Z) (Y Z 0 0)) ((qh _ _ _ _ ZP.symm).trans ((qh _ _ _ _ ZP.symm).trans ((qh _ _ _ _ ZP.symm).trans ((qh _ _ _ _ qr.symm).trans (ZR.block _ ZM))))) ((qh _ _ _ _ ZO.symm).trans ((qh _ _ _ _ ZO.symm).trans ((qh _ _ _ _ ZO.symm).trans ((qh _ _ _ _ mv.symm).trans (ZR.block _ ZL))))));have F8:=ae (kq (kq (kq (kq FZ (show (B (A w))+1<B (A j) by omega) 0 (Y H m.length ZQ)) (show (B (A w))+1+1<B (A j) by omega) 0 (Q I rc)) (show (B (A w))+1+1<B (A j) by omega) 1 (U rt)) (show (B (A w))+1+1<B (A j) by omega) 2 (Y Z 0 0));refine aI (i:=8) rfl (by as_aux_lemma=>kernel_rfl) λK ZS=>?_;go_simp;refine ZS _ _ FV ?_;clear ZS K
   (try simp only[Act.put])
   refine wpAnyH_done (by as_aux_lemma=>kernel_rfl) ?_ _;refine NoPanic.normal ?_;go_wp2_with fail;refine leaves_cons (f:=110) (args:=#[.pointer (T (N (B (A w)+1) 0 Z)),.pointer (T (N (B (A w)+1+1) 0 Z))]) (by simp) (by simp[go_sem]) ?_;refine(xx (N (B (A w)+1) 0 Z) (N (B (A w)+1+1) 0 Z) _).mono ?_;rintro e u' w6 ⟨rfl,rfl,rfl⟩;show Leaves _ _ _ _ [] .returning _;refine⟨.tuple #[Y H m.length ZQ,ZG #[Q I rc,U rt,Y Z 0 0]],by simp[results,TS,go_sem,O,r0,r1,ZK],?_⟩;refine⟨j,_,_,ZN,rfl,F8,by rw[FX.out];exact ji _ _ _ _,ZT.fin _ _ _ _,λ_ b off n f hn0 fd=>?_⟩;have F0:b≠B (A w)+1:=λe=>Bt (by rw[e];exact ex) hn0 fd;have n9:b≠B (A w)+1+1:=λe=>Bu (by rw[e];exact sm) hn0 fd;exact((((((fd.aa o ly).aa ZR ly).setOther _ F0.symm _).setOther _ n9.symm _).setOther _ n9.symm _).setOther _ n9.symm _)
  ·obtain⟨u,rfl,h1,h2⟩:=t;obtain⟨g,cu,rfl⟩:=ct h1;have o:=ae (AK.trans h2);have O4:=ae h1;go_wp2_with fail;have n8:r.heap[B (A w)+1]?=_:=(o.block _ (by omega)).trans ex;have ro:r.heap[B (A w)+1+1]?=_:=(o.block _ (by omega)).trans sm;refine leaves_cons (f:=110) (args:=#[.pointer (T (N (B (A w)+1) 0 Z)),.pointer (T (N (B (A w)+1+1) 0 Z))]) (by simp) (by simp[go_sem]) ?_;refine(mC (B (A w)+1) (B (A w)+1+1) 235 _ [] 6 ⟨#[]⟩ g c.length cu r (oM g c.length cu r) _ _ _ _ _ _ n8 ro (by omega)).mono ?_;rintro e u' w6 ⟨rfl,rfl,L,ZI,rfl⟩;have OB:Hid (∀k,k<B (A j)->(Value.slice g c.length cu).ownBlock≠T k):=λk hk e=>by have:=(af O4 k e).1;omega
   have ZT:=ae (q.aa (o.trans (ZI.mono o.size)));obtain⟨hpl,O,-⟩:=ZT.row;obtain⟨rl,r0,r1,ZK,-⟩:=dG ZT.2.2.2;show Leaves _ _ _ _ [] .returning _;refine⟨.tuple #[Y Z 0 0,ZG #[Q I 6,U ⟨#[]⟩,(Y g c.length cu)]],by simp[results,TS,go_sem,O,r0,r1,ZK],?_⟩;exact⟨j,_,_,ZN,rfl,nI _ _ _,⟨g,cu,rfl,aC (ay (ay (ay (ay (own_below O4 ZI ly) (OB _ (by omega)) _ _) (OB _ (by omega)) _ _) (OB _ (by omega)) _ _) (OB _ (by omega)) _ _) (by omega)⟩,ZT.fin _ _ _ _,λh=>absurd rfl h⟩
  {obtain⟨rfl,h2⟩:=t;have o:=ae (AK.trans h2);go_wp2_with fail;have n8:r.heap[B (A w)+1]?=_:=(o.block _ (by omega)).trans ex;have ro:r.heap[B (A w)+1+1]?=_:=(o.block _ (by omega)).trans sm;refine leaves_cons (f:=110) (args:=#[.pointer (T (N (B (A w)+1) 0 Z)),.pointer (T (N (B (A w)+1+1) 0 Z))]) (by simp) (by simp[go_sem]) ?_;refine(mC (B (A w)+1) (B (A w)+1+1) 237 _ [] 7 d Z 0 0 r (qV d r) _ _ _ _ _ _ n8 ro (by omega)).mono ?_;rintro e u' w6 ⟨rfl,rfl,L,ZI,rfl⟩;have ZT:=ae (q.aa (o.trans (ZI.mono o.size)));obtain⟨hpl,O,-⟩:=ZT.row;obtain⟨rl,r0,r1,ZK,-⟩:=dG ZT.2.2.2;show Leaves _ _ _ _ [] .returning _;refine⟨.tuple #[Y Z 0 0,ZG #[Q I 7,U d,(Y Z 0 0)]],by simp[results,TS,go_sem,O,r0,r1,ZK],?_⟩;exact⟨j,_,_,ZN,rfl,nI _ _ _,ji _ _ _ _,ZT.fin _ _ _ _,λh=>absurd rfl h⟩}
 all_goals
  have hq:P=([],⟨9,⟨#[]⟩,[]⟩):=by rw[HP.out];exact eT λh=>by first|exact hc (W.trans h.1)|exact absurd (ZJ.trans h.2) (by simp)
  clear HP;subst hq
  (try have hc2:(ck == 0)=ZA:=by simpa using hc)
  obtain⟨hpl,O,Gc⟩:=q.row;obtain⟨rl,r0,r1,ZK,C⟩:=dG q.2.2.2;have FP:=C 0;have FY:=C 1;have FU:=C 2;clear C;go_wp2_with fail;refine⟨.tuple #[Y Z 0 0,ZG #[Q I 9,U ⟨#[]⟩,Y Z 0 0]],by simp[results,TS,go_sem,O,r0,r1,ZK],?_⟩;exact⟨w,_,_,cM _ _,rfl,nI _ _ _,ji _ _ _ _,q.fin _ _ _ _,λh=>absurd rfl h⟩
end
section
variable {S:Spc}{a0 a1:Option Addr}{c0 c1:Nat}
theorem qW (w:M)(nm:ByteArray)(s:SlSource w a0 S.n0 S.f0)(q:SlTarget w a1 S.n1 S.f1)(hn0:S.n0<=1048576)(hn1:S.n1<=1048576)(j:∀i,i<S.n1->aY (S.f1 i))(y:Tab w)(g:Tab2 w)(H:Pow w):Calls Pg 12 #[ZG #[Y a0 S.n0 c0,Y a1 S.n1 c1],U nm] w λe G=>∃ZT,e=ZD ZT/\mh w G (aX S nm).2 ZT/\Below (B (A w)) w G:=by
 have b:=ae (((BS w).alloc ly (J #[Y a0 S.n0 c0,Y a1 S.n1 c1] 27)).alloc (by simp) (J #[Q I 0,U ⟨#[]⟩,Y Z 0 0] 39));have u:=ae (zb (c0:=c0) (c1:=c1) ((w.alloc (J #[Y a0 S.n0 c0,Y a1 S.n1 c1] 27)).alloc (J #[Q I 0,U ⟨#[]⟩,Y Z 0 0] 39)) nm (s.aa b ly) (q.aa b ly) hn0 hn1 j (y.aa b y.1) (g.aa b g.1) (H.aa b ly));have x:Hid (((w.alloc (J #[Y a0 S.n0 c0,Y a1 S.n1 c1] 27)).alloc (J #[Q I 0,U ⟨#[]⟩,Y Z 0 0] 39)).heap[B (A w)+1]?=T (J #[Q I 0,U ⟨#[]⟩,Y Z 0 0] 39 (0,0))):=by have h2:=gM (w.alloc (J #[Y a0 S.n0 c0,Y a1 S.n1 c1] 27)) (J #[Q I 0,U ⟨#[]⟩,Y Z 0 0] 39);rw[show(w.alloc (J #[Y a0 S.n0 c0,Y a1 S.n1 c1] 27)).heap.size=B (A w)+1 by simp] at h2;exact h2
 obtain⟨ZS,o⟩:∃ZS,ZS=aX S nm:=⟨_,rfl⟩
 rw[<-o] at u ⊢;clear s q j y g H o;obtain⟨mm,r⟩:=ZS;simp only;go_enter func12,ntmps12;go_wp2_with fail;generalize World.alloc (World.alloc w _) _=C at b u x ⊢;refine u.mono ?_;rintro e l ⟨wb,mdv,ZT,-,rfl,-,⟨a,c,rfl,h⟩,f,-⟩;have D:=ae h;have ZR:=ae (b.trans (f.mono b.size));have t:=ae ((BS l).alloc ly (J #[Q I r.E,U r.y,Y a r.w.length c] 39));have E:B (A w)+1<B (A C):=ag x.out;have hz1:B (A C)<=B (A l):=f.size;have n:=(t.block (B (A w)+1) (by omega)).trans ((f.block _ E).trans x);obtain⟨rl,r0,r1,ZP,m⟩:=dG n;have rf0:=m 0;have rf1:=m 1;have rf2:=m 2;have hxw:¬ (B (A w))+1=B (A l):=by omega
 clear m n h f;go_wp2;refine bp (v:=ZG #[Q I r.E,U r.y,Y a r.w.length c]) (by simp[results,results12,go_sem,r0,r1,ZP]) rfl ⟨_,rfl,⟨a,c,rfl,?_⟩,?_⟩
 ·refine aC (ay (ay (ay (own_below D t ly) (λe=>?_) _ _) (λe=>?_) _ _) (λe=>?_) _ _) b.size;all_goals
   have:=(af D _ e).1;omega
 {exact(((ZR.trans (t.mono ZR.size)).setCell (p:=(N (B (A w)+1) 0 Z)) (by show (B (A w))<=B (A w)+1;omega) _).setCell (p:=(N (B (A w)+1) 1 Z)) (by show (B (A w))<=B (A w)+1;omega) _).setCell (p:=(N (B (A w)+1) 2 Z)) (by show (B (A w))<=B (A w)+1;omega) _}
end
