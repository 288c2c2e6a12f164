import Derived.Deep.RegionHeld3
import Derived.Test.YtcnilonhfpimnaaGreatDoorEL
import Derived.Defers
import Derived.Recover
set_option linter.all false
set_option maxRecDepth 1000000
set_option maxHeartbeats 8000000
open Go renaming Addr.mk->T,Value.slice->Z,Value.string->U,Value.int->J,Value.bool->ZF,Value.agg->ZJ,Obj.cells->N,IntKind.i64->I,World->E,Value->ZB,TypeId->ZK,Ending.returned->ZI,World.heap->A,World.cell?->ZV,Proofs.Tryz.prog->Pg
open Option renaming none->Y,some->Q
open Bool renaming false->ZA,true->ZH
open Array renaming size->B
open List renaming length->ZU
namespace Go.Proofs.YtcnilonhfpimnaaGreatDoor.Vp
open Tryz RowKit Go.Maps
variable {w:E}{b off n m:Nat}{f:Nat->Ins}{a:O_}{t:ZK}
def tm (v:ZB)(b:ZK)(w:E):(Instr.typeAssert (.iface 220 v) b 220 ZH).run Pg w=.ok (.tuple #[v,ZF ZH]) w:=by kernel_rfl
def tr (v:ZB)(b:ZK)(w:E):(Instr.typeAssert (.iface 222 v) b 220 ZH).run Pg w=.ok (.tuple #[ZJ #[Z Y 0 0],ZF ZA]) w:=by kernel_rfl
def yG (v:ZB)(b:ZK)(w:E):(Instr.typeAssert (.iface 222 v) b 222 ZH).run Pg w=.ok (.tuple #[v,ZF ZH]) w:=by kernel_rfl
def qU (a:O_)(n j_:Nat)(w:E):Calls Pg 115 #[.iface 220 (ZJ #[Z a n j_])] w λe b=>e=ZI (ZJ #[J I 6,U ⟨#[]⟩,Z a n j_])/\Below (B (A w)) w b:=by have t1:=tm;have t2:=tr;have t3:=yG;go_enter func115,ntmps115;go_wp2;refine bp (v:=ZJ #[J I 6,U ⟨#[]⟩,Z a n j_]) (by simp[results,results115,go_sem]) rfl ⟨rfl,?_⟩;exact((BS w).alloc ly _).alloc (by simp) _
def tY (d:F_)(w:E):Calls Pg 115 #[.iface 222 (ZJ #[U d])] w λe b=>e=ZI (ZJ #[J I 7,U d,Z Y 0 0])/\Below (B (A w)) w b:=by have t1:=tm;have t2:=tr;have t3:=yG;go_enter func115,ntmps115;go_wp2;refine bp (v:=ZJ #[J I 7,U d,Z Y 0 0]) (by simp[results,results115,go_sem]) rfl ⟨rfl,?_⟩;exact((BS w).alloc ly _).alloc (by simp) _
def Ax (p q:Addr)(w:E):CallsD Pg 114 #[.pointer (Q p),.pointer (Q q)] .returning w λe f h=>e=ZI (.tuple #[])/\f=.returning/\h=w:=by
 have hq:∀w:E,(binOp BinOp.neq 20 .nilIface .nilIface).run Pg w=.ok (ZF ZA) w:=λ_=>by kernel_rfl
 refine callsD_of_wpS func114 rfl λb cs g=>?_;apply wpS_seq;apply wpS_region;simp[wpOpsS,go_sem,recoverD,g,ntmps114,Exit.thenS];refine wpS_of_wp ?_;go_wp2;cases b
 simp_all[bodyPostS,results,results114]
def o6 (p q:Nat)(ZP:ZK)(r:ZB)(f:List PanicEntry)(c:Int)(t:F_)(ZX:O_)(sn s:Nat)(w:E)(ZT:Calls Pg 115 #[.iface ZP r] w λe o=>e=ZI (ZJ #[J I c,U t,Z ZX sn s])/\Below (B (A w)) w o)(z C K L:ZB)(H ZS:ZK)(j:w.heap[p]?=Q (N #[z] H (0,0)))(n:w.heap[q]?=Q (N #[C,K,L] ZS (0,0)))(u:¬ p=q):CallsD Pg 114 #[.pointer (Q (T p 0 Y)),.pointer (Q (T q 0 Y))] (.panicking ({ v:=.iface ZP r,recovered:=ZA } :: f)) w λe M o=>e=ZI (.tuple #[])/\M=.panicking ({ v:=.iface ZP r,recovered:=ZH } :: f)/\∃g,Below (B (A w)) w g/\o=(((g.setCell (T p 0 Y) (Z Y 0 0)).setCell (T q 0 Y) (J I c)).setCell (T q 1 Y) (U t)).setCell (T q 2 Y) (Z ZX sn s):=by
 refine callsD_of_wpS func114 rfl λm cs l=>?_;apply wpS_seq;apply wpS_region;simp[wpOpsS,go_sem,recoverD,l,ntmps114,Exit.thenS];have hnq:∀(w:E) (v:ZB),(binOp BinOp.neq 20 (.iface ZP v) .nilIface).run Pg w=.ok (ZF ZH) w:=λ_ _=>by kernel_rfl
 have D:=ae l;have ZR:=ae j;have G:=ae n;have hpl:=ah j;have x:=ah n;clear l j n;refine wpS_of_wp ?_;go_wp2_with fail;refine ZT.P ?_;rintro e g⟨rfl,h⟩;have ZW:=ae h;have b:=(h.p p hpl).k ZR;obtain⟨rl,r0,r1,r2,i⟩:=dL ((h.p q x).k G);have rf0:=i 0;have rf1:=i 1;have rf2:=i 2;have p0:ZV g (T p 0 Y)=Q z:=by simp[World.cell?,b]
 have pf0:g.frozen? (T p 0 Y)=ZA:=by simp[World.frozen?,b]
 have hpl1:=ah b;have hqp:¬ q=p:=λe=>u e.c;clear i h b;go_wp2;have y:=D.i;cases m
 simp only at y;subst y;refine⟨rfl,_,rfl,.tuple #[],by simp[results,results114],rfl,rfl,g,ZW,rfl⟩
open Ca
def lF (w:E)(S:J_)(g:E)(b:List k_)(f:ZB):Prop:=
 ∃(G:F_->Nat) (V:F_->ZB),g.ownsRow (B (A w)) 131 1 f (ZU b) (jW G b)/\(∀x∈b,EntAt w S G g (G x.e) (V x.e) x)/\b.Pairwise λx y=>G x.e≠G y.e
def oJ (w b:E)(r:jj)(v:ZB):Prop:=∃a c,v=ZJ #[J I r.M,U r.H,Z a (ZU r.R) c]/\b.ownsRow (B (A w)) 9 1 (Z a (ZU r.R) c) (ZU r.R) (bO r.R)
def Dn (w:E)(S:J_)(b:List k_ × jj)(e:Ending)(g:E):Prop:=
 ∃i h j,Below (B (A w)) w i/\e=ZI (.tuple #[h,j])/\lF i S g b.1 h/\oJ w g b.2 j/\Below (B (A w)) w g/\(b.1≠[]->∀b off n f,0<n->Qj i b off n f->Qj g b off n f)
def Gj{c:Nat}(h:w.heap[b]?=Q (N #[Z a m c] t (0,0)))(hn:0<n)(i:Qj w b off n f):False:=by
 have g:=(i.2 0 hn).1;simp only[World.cell?,h,UR,QF] at g;match off,g with
 |0,g=>simp at g
 |k+1,g=>simp at g
def Gk{z:Int}{x:F_}{c:Nat}(h:w.heap[b]?=Q (N #[J I z,U x,Z a m c] t (0,0)))(hn:0<n)(i:Qj w b off n f):False:=by
 have g:=(i.2 0 hn).1;have h2:=(i.2 0 hn).2.2;simp only[World.cell?,h,UR,QF] at g h2;match off,g,h2 with
 |0,g,h2=>simp at h2
 |1,g,h2=>simp at g
 |2,g,h2=>simp at g
 |k+3,g,h2=>simp at g
def pQ (w:E)(S:J_)(f:E):lF w S f [] (Z Y 0 0):=⟨λ_=>0,λ_=>Z Y 0 0,⟨rfl,.inl ⟨rfl,rfl⟩⟩,λ_ b=>absurd b nj,List.Pairwise.nil⟩
def kw (w b:E)(c:Int)(t:F_):oJ w b ⟨c,t,[]⟩ (ZJ #[J I c,U t,Z Y 0 0]):=⟨Y,0,rfl,⟨rfl,.inl ⟨rfl,rfl⟩⟩⟩
def Ay (nm tx:F_)(b f:Int)(m:O_)(i h:Nat)(w:E):Calls Pg 117 #[ZJ #[U nm,J I b,J I f,U tx,Z m i h,Z Y 0 0]] w λe n=>e=ZI (if b=2 then ZJ #[J I 4,U nm,Z Y 0 0] else ZJ #[J I f,U tx,Z Y 0 0])/\Below (B (A w)) w n:=by
 have l:=ae ((BS w).alloc ly (N #[U nm,J I b,J I f,U tx,Z m i h,Z Y 0 0] 62));by_cases g:b=2
 ·rw[eT g];have j:(b == 2)=ZH:=by simpa using g
  go_enter func117,ntmps117;go_wp2;refine bp (v:=ZJ #[J I 4,U nm,Z Y 0 0]) (by simp[results,results117,go_sem]) rfl ⟨rfl,?_⟩;exact((BS w).alloc ly _).alloc (by simp) _
 ·rw[eI g];have j:(b == 2)=ZA:=by simpa using g
  go_enter func117,ntmps117;go_wp2;refine bp (v:=ZJ #[J I f,U tx,Z Y 0 0]) (by simp[results,results117,go_sem]) rfl ⟨rfl,?_⟩;exact l.alloc l.size _
def BSt (w W:E)(u v:ZB):Prop:=Below (B (A w)) w W/\W.heap[B (A w)]?=Q (N #[u,v] 29 (0,0))/\W.heap[B (A w)+1]?=Q (N #[Z Y 0 0] 128 (0,0))/\W.heap[B (A w)+1+1]?=Q (N #[J I 0,U ⟨#[]⟩,Z Y 0 0] 88 (0,0))
def Io (w:E)(u v:ZB):BSt w (((w.alloc (N #[u,v] 29)).alloc (N #[Z Y 0 0] 128)).alloc (N #[J I 0,U ⟨#[]⟩,Z Y 0 0] 88)) u v:=by
 refine⟨(((BS w).alloc ly _).alloc (by simp) _).alloc (by simp<;>omega) _,((((a8 (B (A w)+1) _).alloc (by simp) _).alloc (by simp<;>omega) _).p (B (A w)) (by omega)).k (gM w _),?_,?_⟩;{have h2:=gM (w.alloc (N #[u,v] 29)) (N #[Z Y 0 0] 128);rw[show(w.alloc (N #[u,v] 29)).heap.size=B (A w)+1 by simp] at h2;exact(((a8 (B (A w)+2) _).alloc (by simp) _).p (B (A w)+1) (by omega)).k h2};{have h2:=gM ((w.alloc (N #[u,v] 29)).alloc (N #[Z Y 0 0] 128)) (N #[J I 0,U ⟨#[]⟩,Z Y 0 0] 88);rw[show((w.alloc (N #[u,v] 29)).alloc (N #[Z Y 0 0] 128)).heap.size=B (A w)+1+1 by simp] at h2;exact h2}
section
variable {w W W':E}{u v:ZB}
def BSt.aa (h:BSt w W u v)(b:Below (B (A W)) W W'):BSt w W' u v:=
 ⟨h.1.k (b.P h.1.size),(b.p _ (ah h.2.1)).k h.2.1,(b.p _ (ah h.2.2.1)).k h.2.2.1,(b.p _ (ah h.2.2.2)).k h.2.2.2⟩
def BSt.fin (h:BSt w W u v)(f i b g:ZB):Below (B (A w)) w ((((W.setCell (T (B (A w)+1) 0 Y) f).setCell (T (B (A w)+1+1) 0 Y) i).setCell (T (B (A w)+1+1) 1 Y) b).setCell (T (B (A w)+1+1) 2 Y) g):=
 (((h.1.setCell (WP _ 1) f).setCell (WP _ 2) i).setCell (WP _ 2) b).setCell (WP _ 2) g
def BSt.args (h:BSt w W u v):ZV W (T (B (A w)) 0 Y)=Q u/\ZV W (T (B (A w)) 1 Y)=Q v/\(B (A w))+3<=B (A W):=
 ⟨by simp[World.cell?,h.2.1],by simp[World.cell?,h.2.1],ah h.2.2.2⟩
def BSt.row (h:BSt w W u v):B (A w)+1<B (A W)/\ZV W (T (B (A w)+1) 0 Y)=Q (Z Y 0 0)/\W.frozen? (T (B (A w)+1) 0 Y)=ZA:=
 ⟨ah h.2.2.1,by simp[World.cell?,h.2.2.1],by simp[World.frozen?,h.2.2.1]⟩
end
section
variable {S:J_}{a0 a1:O_}{c0 c1:Nat}
def EntAt.setLow{f:E}{G:F_->Nat}{v:ZB}{x:k_}(h:EntAt f S G w b v x){k:Nat}(hk:k<B (A f))(j:Nat)(u:ZB):EntAt f S G (w.setCell (T k j Y) u) b v x:=by obtain⟨⟨act,hb,l⟩,i,g⟩:=h;refine⟨⟨act,(qh _ _ _ _ (show b≠k by omega)).k hb,l⟩,i,aB g (λe=>?_) _ _⟩;have:=(af g k e).1;omega
def mK{g:E}{b:List k_}{f:ZB}(h:lF g S w b f){k:Nat}(i:k<B (A g))(j:Nat)(u:ZB):lF g S (w.setCell (T k j Y) u) b f:=by obtain⟨G,V,h1,h2,m⟩:=h;refine⟨G,V,aB h1 (λe=>?_) _ _,λx l=>(h2 x l).setLow i j u,m⟩;have:=(af h1 k e).1;omega
def Gl (w:E):(Instr.makeMap 178 Y).run Pg w=.ok (.map (Q (B (A w)))) (w.alloc (.map #[] 0)):=by kernel_rfl
def wv (S:J_):dU S [] []<=S.n1:=by have:=UC (p:=js S [] []) (l:=List.range S.n1);rw[List.length_range] at this;exact this
def Do (w:E)(nm:F_)(ur:Qy w a0 S.n0 S.f0)(th:Qx w a1 S.n1 S.f1)(hn0:S.n0<=1048576)(hn1:S.n1<=1048576)(ex:∀i,i<S.n1->aP (S.f1 i))(hT:Tab w)(Hx:Tab2 w)(hP:Pow w):Calls Pg 75 #[ZJ #[Z a0 S.n0 c0,Z a1 S.n1 c1],U nm] w λe w'=>Dn w S (bE S nm) e w':=by
 have V0:=ae ur;have V1:=ae th;have JT:=ae ex;have Fk:=ae hT;have Fd:=ae Hx;have JV:=ae hP;obtain⟨ck,Fm⟩:∃ck,ck=aR S.n0 S.f0 S.n1 S.f1:=⟨_,rfl⟩
 have ZM:=ae Fm;obtain⟨kn,GS⟩:∃kn,kn=aA nm:=⟨_,rfl⟩
 have aq:=ae GS;obtain⟨P,bt⟩:∃P,P=bE S nm:=⟨_,rfl⟩
 have HP:=ae bt;rw[<-bt];clear ur th ex hT Hx hP Fm GS bt;have hmm:=Gl;have hmf:∀(fn:Fn) (first j_:Array ZB) (w:E),(Instr.makeFunc fn first j_).run Pg w=.ok (.func fn first j_) w:=λ_ _ _ _=>rfl;have L:=ae (Io w (Z a0 S.n0 c0) (Z a1 S.n1 c1));obtain⟨s0,s1,zS⟩:=L.args;go_enter_defers func75,ntmps75;go_wp2_with fail;generalize World.alloc (World.alloc (World.alloc w _) _) _=W0 at L s0 s1 zS ⊢;refine(mU a0 S.n0 c0 S.f0 a1 S.n1 c1 S.f1 _ (by omega) (by omega) (V0.aa L.1 ly) (V1.aa L.1 ly) JT (Fk.aa L.1 Fk.1)).P ?_;rintro e w1⟨D,p⟩;rw[<-ZM.i] at D;subst D;have r:=ae (L.aa p);clear p s0 s1 zS L;by_cases hc:ck=0;case' pos =>subst hc;go_wp2_with fail;refine(fu nm w1).P ?_;rintro e j⟨D,p⟩;rw[<-aq.i] at D;subst D;replace r:=ae (r.aa p);clear p;cases kn
 case true =>
  have Id:=ae aq.c;have W:=ae (SpcOk.of ZM.c);have hq:P=match aT S 60 [] [] nm with | .inl (m,e)=>(m,dt e) | .inr (.inl c)=>([],⟨6,⟨#[]⟩,c⟩) | .inr (.inr d)=>([],⟨7,d,[]⟩):=by rw[HP.i];exact eT ⟨ZM.c,aq.c⟩
  generalize hR:aT S 60 [] [] nm=R at hq;have HR:=ae hR.c;clear HP hR;subst hq;have O:=ae r.1;have qr:=ae r.2.2.1;have n9:=ae r.2.2.2;obtain⟨q0,q1,hz2⟩:=r.args;have AM:=ae ((BS j).alloc ly (.map #[] 0));have AK:=ae (AM.alloc (by simp) (N #[Z a0 S.n0 c0,Z a1 S.n1 c1,.map (Q (B (A j))),Z Y 0 0,Z Y 0 0] 180));have CX:Hid (Ctx j S a0 c0 a1 c1):=⟨V0.aa O ly,V1.aa O ly,W,Fd.aa O Fd.1,JV.aa O ly,λi hi=>by have:=W.H i hi;unfold maxLen;omega⟩
  have zM:(j.alloc (.map #[] 0)).heap.size=B (A j)+1:=by simp
  have At:Hid (MI j S (B (A j)+1) (B (A j)) (Z a0 S.n0 c0) (Z a1 S.n1 c1) ((j.alloc (.map #[] 0)).alloc (N #[Z a0 S.n0 c0,Z a1 S.n1 c1,.map (Q (B (A j))),Z Y 0 0,Z Y 0 0] 180)) [] [] [] (λ_=>0) (λ_=>Z Y 0 0) (Z Y 0 0) (Z Y 0 0)):=by
   refine⟨AK,BV _,p7 _,?_,⟨rfl,.inl ⟨rfl,rfl⟩⟩,⟨rfl,.inl ⟨rfl,rfl⟩⟩,?_,λ_ hx=>absurd hx nj,List.Pairwise.nil⟩;{have h2:=gM (j.alloc (.map #[] 0)) (N #[Z a0 S.n0 c0,Z a1 S.n1 c1,.map (Q (B (A j))),Z Y 0 0,Z Y 0 0] 180);rw[zM] at h2;exact h2};{refine((FK j).ad (((a8 (B (A j)+1) _).alloc (by simp) _).p (B (A j)) (by omega))).congr λs=>?_;simp[dK]}
  have JK:Hid (eX S [] [] 1):=by have h1:=wv S;have h2:=W.bb;unfold eX;show _<=_;simp;omega
  go_wp2_with fail;clear q0 q1;generalize World.alloc (World.alloc j _) _=W3 at AK At ⊢;refine(F3 CX 60 [] [] _ _ _ _ W3 nm rfl At (gv S []) JK Id).P ?_;intro e q t;rw[<-HR.i] at t;rcases R with⟨m,x⟩|c|d
  ·obtain⟨G',V',mk',md',rfl,hM,hE,ZW⟩:=t;obtain⟨JO,-,hx,JR⟩:=dm W 60 [] [] nm m x (gv S []) Id HR.c;obtain⟨act,DE,ZT⟩:=(hM.W x hx).ad;obtain⟨aa,na,ca,rfl⟩:∃a n c,act=Z a n c:=by
    unfold oF at ZT;split at ZT;{obtain⟨_,a,c,e,_⟩:=ZT;exact⟨a,_,c,e⟩};{exact⟨_,_,_,ZT⟩}
   obtain⟨ZQ,H,rfl⟩:=bM hM.X;obtain⟨rc,rt,ph,Bk⟩:∃rc rt,(if x.L=2 then Value.agg #[J I 4,U x.e,Z Y 0 0] else ZJ #[J I x.M,U x.H,Z Y 0 0])=ZJ #[J I rc,U rt,Z Y 0 0]/\dt x=⟨rc,rt,[]⟩:=by
    unfold dt;split;{exact⟨_,_,rfl,rfl⟩};{exact⟨_,_,rfl,rfl⟩}
   have JW:=ae ph;have JX:=ae Bk;have M4:=ae hM;have o:=ae hM.ak;have JG:=(hM.W x hx).ge;have sm:=ae DE;obtain⟨l,DQ⟩:∃l,l=G' x.e:=⟨_,rfl⟩
   rw[<-DQ] at sm JG ⊢;have SQ:Hid (∀V:E,V.heap[B (A j)+1]?=q.heap[B (A j)+1]?->V.heap[l]?=q.heap[l]?->ZV V (T (B (A j)+1) 4 Y)=Q (Z ZQ (ZU m) H)/\ZV V (T l 0 Y)=Q (U x.e)/\ZV V (T l 1 Y)=Q (J I x.L)/\ZV V (T l 2 Y)=Q (J I x.M)/\ZV V (T l 3 Y)=Q (U x.H)/\ZV V (T l 4 Y)=Q (Z aa na ca)/\ZV V (T l 5 Y)=Q (Z Y 0 0)):=λV h1 h2=>by obtain⟨-,-,-,-,-,e4,-⟩:=M4.ab.y;obtain⟨-,e0,e1,e2,e3,e5,e6,-,-,-⟩:=sm.y;exact⟨(cq (a:=(T (B (A j)+1) 4 Y)) h1).k e4,(cq (a:=(T l 0 Y)) h2).k e0,(cq (a:=(T l 1 Y)) h2).k e1,(cq (a:=(T l 2 Y)) h2).k e2,(cq (a:=(T l 3 Y)) h2).k e3,(cq (a:=(T l 4 Y)) h2).k e5,(cq (a:=(T l 5 Y)) h2).k e6⟩
   have G:=ah hM.ab;have ZN:=ah sm.i;clear hM hE ZW JO hx JR DE ZT ph Bk DQ;go_wp2_with fail;refine wp_region_noPanic ?_;refine wp_region_held_drew (S:=λV=>ZV V (T (B (A j)+1) 4 Y)=Q (Z ZQ (ZU m) H)/\ZV V (T l 0 Y)=Q (U x.e)/\ZV V (T l 1 Y)=Q (J I x.L)/\ZV V (T l 2 Y)=Q (J I x.M)/\ZV V (T l 3 Y)=Q (U x.H)/\ZV V (T l 4 Y)=Q (Z aa na ca)/\ZV V (T l 5 Y)=Q (Z Y 0 0)) (by as_aux_lemma=>kernel_rfl) (SQ _ rfl rfl) λhS=>?_;have HS:=ae hS;clear hS;iterate 6
    first|refine aN 0 (v:=?_) rfl rfl (by as_aux_lemma=>kernel_rfl) (λ_ _ _ h=>h) rfl ?_ HS ?_|refine aN 2 (v:=?_) rfl rfl (by as_aux_lemma=>kernel_rfl) (λ_ _ _ h=>h) rfl ?_ HS ?_
    rotate_left
    ·(rintro wz⟨s0,s1,s2,s3,s4,s5,s6⟩;go_simp)
     (try with_reducible rfl)
    (try simp only[Act.put,z_])
   refine aL (i:=6) rfl (by as_aux_lemma=>kernel_rfl) λK ZW=>?_;go_simp;go_at_call 117;refine(Ay x.e x.H x.L x.M aa na ca _).P ?_;rintro e ZP⟨D,p⟩;rw[JW.i] at D;subst D;have ZX:Hid (Below (B (A q)) q ZP):=⟨p.os,p.tape,p.output,p.size,p.p⟩
   clear p HS;have HS:=ae (SQ ZP (ZX.p _ G) (ZX.p _ ZN));refine ZW _ _ HS ?_;clear ZW K
   (try simp only[Act.put,z_])
   have z:=ae (r.aa (o.k (ZX.P o.size)));obtain⟨hpl,M,JH⟩:=z.row;obtain⟨rl,r0,r1,ZS,C⟩:=dL z.2.2.2;have JL:=C 0;have JS:=C 1;have JN:=C 2;clear C;have JQ:Hid (lF j S ZP m (Z ZQ (ZU m) H)):=⟨G',V',K_ M4.X ZX ly,λy hy=>(M4.W y hy).kx (KX.l (X:=XN) ZX ly M4.lt) (λh=>h) (λ_ _ h=>h),M4.dist⟩
   have ld:B (A w)+1≠B (A j)+1:=by omega
   have mv:B (A w)+1≠l:=by omega
   refine aL (i:=7) rfl (by as_aux_lemma=>kernel_rfl) λK ZW=>?_;go_simp;have JI:=ae (SQ (ZP.setCell (T (B (A w)+1) 0 Y) (Z ZQ (ZU m) H)) ((qh _ _ _ _ ld.c).k (ZX.p _ G)) ((qh _ _ _ _ mv.c).k (ZX.p _ ZN)));refine ZW _ _ JI ?_;clear ZW K HS
   (try simp only[Act.put])
   have ZO:B (A w)+1+1≠B (A j)+1:=by omega
   have ZR:B (A w)+1+1≠l:=by omega
   have JP:=ae (SQ ((((ZP.setCell (T (B (A w)+1) 0 Y) (Z ZQ (ZU m) H)).setCell (T (B (A w)+1+1) 0 Y) (J I rc)).setCell (T (B (A w)+1+1) 1 Y) (U rt)).setCell (T (B (A w)+1+1) 2 Y) (Z Y 0 0)) ((qh _ _ _ _ ZO.c).k ((qh _ _ _ _ ZO.c).k ((qh _ _ _ _ ZO.c).k ((qh _ _ _ _ ld.c).k (ZX.p _ G))))) ((qh _ _ _ _ ZR.c).k ((qh _ _ _ _ ZR.c).k ((qh _ _ _ _ ZR.c).k ((qh _ _ _ _ mv.c).k (ZX.p _ ZN))))));have JM:=ae (mK (mK (mK (mK JQ (show (B (A w))+1<B (A j) by omega) 0 (Z ZQ (ZU m) H)) (show (B (A w))+1+1<B (A j) by omega) 0 (J I rc)) (show (B (A w))+1+1<B (A j) by omega) 1 (U rt)) (show (B (A w))+1+1<B (A j) by omega) 2 (Z Y 0 0));refine aL (i:=8) rfl (by as_aux_lemma=>kernel_rfl) λK ZW=>?_;go_simp;refine ZW _ _ JP ?_;clear ZW K
   (try simp only[Act.put])
   refine wpAnyH_done (by as_aux_lemma=>kernel_rfl) ?_ _;refine NoPanic.normal ?_;go_wp2_with fail;refine leaves_cons (f:=114) (args:=#[.pointer (Q (T (B (A w)+1) 0 Y)),.pointer (Q (T (B (A w)+1+1) 0 Y))]) (by simp) (by simp[go_sem]) ?_;refine(Ax (T (B (A w)+1) 0 Y) (T (B (A w)+1+1) 0 Y) _).P ?_;rintro e u' w6⟨rfl,rfl,rfl⟩;show Leaves _ _ _ _ [] .returning _;refine⟨.tuple #[Z ZQ (ZU m) H,ZJ #[J I rc,U rt,Z Y 0 0]],by simp[results,YQ,go_sem,M,r0,r1,ZS],?_⟩;refine⟨j,_,_,O,rfl,JM,by rw[JX.i];exact kw _ _ _ _,z.fin _ _ _ _,λ_ b off n f hn0 ro=>?_⟩;have JU:b≠B (A w)+1:=λe=>Gj (by rw[e];exact qr) hn0 ro;have fd:b≠B (A w)+1+1:=λe=>Gk (by rw[e];exact n9) hn0 ro;exact((((((ro.aa o ly).aa ZX ly).setOther _ JU.c _).setOther _ fd.c _).setOther _ fd.c _).setOther _ fd.c _)
  ·obtain⟨u,rfl,h1,h2⟩:=t;obtain⟨g,cu,rfl⟩:=bM h1;have o:=ae (AK.k h2);have O4:=ae h1;go_wp2_with fail;have n8:q.heap[B (A w)+1]?=_:=(o.p _ (by omega)).k qr;have la:q.heap[B (A w)+1+1]?=_:=(o.p _ (by omega)).k n9;refine leaves_cons (f:=114) (args:=#[.pointer (Q (T (B (A w)+1) 0 Y)),.pointer (Q (T (B (A w)+1+1) 0 Y))]) (by simp) (by simp[go_sem]) ?_;refine(o6 (B (A w)+1) (B (A w)+1+1) 220 _ [] 6 ⟨#[]⟩ g (ZU c) cu q (qU g (ZU c) cu q) _ _ _ _ _ _ n8 la (by omega)).P ?_;rintro e u' w6⟨rfl,rfl,ZP,ZL,rfl⟩;have OB:Hid (∀k,k<B (A j)->(Value.slice g (ZU c) cu).ownBlock≠Q k):=λk hk e=>by have:=(af O4 k e).1;omega
   have z:=ae (r.aa (o.k (ZL.P o.size)));obtain⟨hpl,M,-⟩:=z.row;obtain⟨rl,r0,r1,ZS,-⟩:=dL z.2.2.2;show Leaves _ _ _ _ [] .returning _;refine⟨.tuple #[Z Y 0 0,ZJ #[J I 6,U ⟨#[]⟩,(Z g (ZU c) cu)]],by simp[results,YQ,go_sem,M,r0,r1,ZS],?_⟩;exact⟨j,_,_,O,rfl,pQ _ _ _,⟨g,cu,rfl,aE (aB (aB (aB (aB (K_ O4 ZL ly) (OB _ (by omega)) _ _) (OB _ (by omega)) _ _) (OB _ (by omega)) _ _) (OB _ (by omega)) _ _) (by omega)⟩,z.fin _ _ _ _,λh=>absurd rfl h⟩
  {obtain⟨rfl,h2⟩:=t;have o:=ae (AK.k h2);go_wp2_with fail;have n8:q.heap[B (A w)+1]?=_:=(o.p _ (by omega)).k qr;have la:q.heap[B (A w)+1+1]?=_:=(o.p _ (by omega)).k n9;refine leaves_cons (f:=114) (args:=#[.pointer (Q (T (B (A w)+1) 0 Y)),.pointer (Q (T (B (A w)+1+1) 0 Y))]) (by simp) (by simp[go_sem]) ?_;refine(o6 (B (A w)+1) (B (A w)+1+1) 222 _ [] 7 d Y 0 0 q (tY d q) _ _ _ _ _ _ n8 la (by omega)).P ?_;rintro e u' w6⟨rfl,rfl,ZP,ZL,rfl⟩;have z:=ae (r.aa (o.k (ZL.P o.size)));obtain⟨hpl,M,-⟩:=z.row;obtain⟨rl,r0,r1,ZS,-⟩:=dL z.2.2.2;show Leaves _ _ _ _ [] .returning _;refine⟨.tuple #[Z Y 0 0,ZJ #[J I 7,U d,(Z Y 0 0)]],by simp[results,YQ,go_sem,M,r0,r1,ZS],?_⟩;exact⟨j,_,_,O,rfl,pQ _ _ _,kw _ _ _ _,z.fin _ _ _ _,λh=>absurd rfl h⟩}
 all_goals
  have hq:P=([],⟨9,⟨#[]⟩,[]⟩):=by rw[HP.i];exact eI λh=>by first|exact hc (ZM.k h.1)|exact absurd (aq.k h.2) (by simp)
  clear HP;subst hq
  (try have hc2:(ck == 0)=ZA:=by simpa using hc)
  obtain⟨hpl,M,JH⟩:=r.row;obtain⟨rl,r0,r1,ZS,C⟩:=dL r.2.2.2;have JL:=C 0;have JS:=C 1;have JN:=C 2;clear C;go_wp2_with fail;refine⟨.tuple #[Z Y 0 0,ZJ #[J I 9,U ⟨#[]⟩,Z Y 0 0]],by simp[results,YQ,go_sem,M,r0,r1,ZS],?_⟩;exact⟨w,_,_,a8 _ _,rfl,pQ _ _ _,kw _ _ _ _,r.fin _ _ _ _,λh=>absurd rfl h⟩
end
