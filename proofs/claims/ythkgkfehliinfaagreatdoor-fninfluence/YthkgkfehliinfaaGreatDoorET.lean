import Derived.Deep.RegionHeld3
import Derived.Test.YthkgkfehliinfaaGreatDoorEL
import Derived.Defers
import Derived.Recover
set_option linter.all false
set_option maxRecDepth 1000000
set_option maxHeartbeats 8000000
open Go renaming Addr.mk->Q,Value.slice->Y,Value.string->U,Value.int->J,Value.bool->ZF,Value.agg->ZJ,Obj.cells->N,IntKind.i64->I,World->E,Value->ZB,TypeId->ZK,Ending.returned->ZI,World.heap->A,World.cell?->ZW,World.setCell->ZU,Proofs.Tryz.prog->Pg
open Option renaming none->Z,some->T
open Bool renaming false->ZA,true->ZH
open Array renaming size->B
open List renaming length->ZV
namespace Go.Proofs.YthkgkfehliinfaaGreatDoor.Vp
open Tryz RowKit Go.Maps
variable {w:E}{b off n m:Nat}{f:Nat->Ins}{a:O_}{t:ZK}
def tm (v:ZB)(b:ZK)(w:E):(Instr.typeAssert (.iface 235 v) b 235 ZH).run Pg w=.ok (.tuple #[v,ZF ZH]) w:=by kernel_rfl
def tr (v:ZB)(b:ZK)(w:E):(Instr.typeAssert (.iface 237 v) b 235 ZH).run Pg w=.ok (.tuple #[ZJ #[Y Z 0 0],ZF ZA]) w:=by kernel_rfl
def yG (v:ZB)(b:ZK)(w:E):(Instr.typeAssert (.iface 237 v) b 237 ZH).run Pg w=.ok (.tuple #[v,ZF ZH]) w:=by kernel_rfl
def qU (a:O_)(n j_:Nat)(w:E):Calls Pg 133 #[.iface 235 (ZJ #[Y a n j_])] w λe b=>e=ZI (ZJ #[J I 6,U ⟨#[]⟩,Y a n j_])/\Below (B (A w)) w b:=by have t1:=tm;have t2:=tr;have t3:=yG;go_enter func133,ntmps133;go_wp2;refine bp (v:=ZJ #[J I 6,U ⟨#[]⟩,Y a n j_]) (by simp[results,results133,go_sem]) rfl ⟨rfl,?_⟩;exact((BS w).alloc ly _).alloc (by simp) _
def tY (d:F_)(w:E):Calls Pg 133 #[.iface 237 (ZJ #[U d])] w λe b=>e=ZI (ZJ #[J I 7,U d,Y Z 0 0])/\Below (B (A w)) w b:=by have t1:=tm;have t2:=tr;have t3:=yG;go_enter func133,ntmps133;go_wp2;refine bp (v:=ZJ #[J I 7,U d,Y Z 0 0]) (by simp[results,results133,go_sem]) rfl ⟨rfl,?_⟩;exact((BS w).alloc ly _).alloc (by simp) _
def Ax (p q:Addr)(w:E):CallsD Pg 132 #[.pointer (T p),.pointer (T q)] .returning w λe f h=>e=ZI (.tuple #[])/\f=.returning/\h=w:=by
 have hq:∀w:E,(binOp BinOp.neq 20 .nilIface .nilIface).run Pg w=.ok (ZF ZA) w:=λ_=>by kernel_rfl
 refine callsD_of_wpS func132 rfl λb cs g=>?_;apply wpS_seq;apply wpS_region;simp[wpOpsS,go_sem,recoverD,g,ntmps132,Exit.thenS];refine wpS_of_wp ?_;go_wp2;cases b
 simp_all[bodyPostS,results,results132]
def o6 (p q:Nat)(ZO:ZK)(j:ZB)(b:List PanicEntry)(c:Int)(t:F_)(x:O_)(sn ZY:Nat)(w:E)(D:Calls Pg 133 #[.iface ZO j] w λe n=>e=ZI (ZJ #[J I c,U t,Y x sn ZY])/\Below (B (A w)) w n)(s M ZR ZS:ZB)(ZT K:ZK)(m:w.heap[p]?=T (N #[s] ZT (0,0)))(l:w.heap[q]?=T (N #[M,ZR,ZS] K (0,0)))(z:¬ p=q):CallsD Pg 132 #[.pointer (T (Q p 0 Z)),.pointer (T (Q q 0 Z))] (.panicking ({ v:=.iface ZO j,recovered:=ZA } :: b)) w λe H n=>e=ZI (.tuple #[])/\H=.panicking ({ v:=.iface ZO j,recovered:=ZH } :: b)/\∃g,Below (B (A w)) w g/\n=ZU (ZU (ZU (ZU g (Q p 0 Z) (Y Z 0 0)) (Q q 0 Z) (J I c)) (Q q 1 Z) (U t)) (Q q 2 Z) (Y x sn ZY):=by
 refine callsD_of_wpS func132 rfl λo cs r=>?_;apply wpS_seq;apply wpS_region;simp[wpOpsS,go_sem,recoverD,r,ntmps132,Exit.thenS];have hnq:∀(w:E) (v:ZB),(binOp BinOp.neq 20 (.iface ZO v) .nilIface).run Pg w=.ok (ZF ZH) w:=λ_ _=>by kernel_rfl
 have ZX:=ae r;have C:=ae m;have L:=ae l;have hpl:=ah m;have u:=ah l;clear r m l;refine wpS_of_wp ?_;go_wp2_with fail;refine D.P ?_;rintro e g⟨rfl,h⟩;have G:=ae h;have f:=(h.p p hpl).k C;obtain⟨rl,r0,r1,r2,i⟩:=dL ((h.p q u).k L);have rf0:=i 0;have rf1:=i 1;have rf2:=i 2;have p0:ZW g (Q p 0 Z)=T s:=by simp[World.cell?,f]
 have pf0:g.frozen? (Q p 0 Z)=ZA:=by simp[World.frozen?,f]
 have hpl1:=ah f;have hqp:¬ q=p:=λe=>z e.c;clear i h f;go_wp2;have y:=ZX.i;cases o
 simp only at y;subst y;refine⟨rfl,_,rfl,.tuple #[],by simp[results,results132],rfl,rfl,g,G,rfl⟩
open Ca
def lF (w:E)(S:x_)(g:E)(b:List zt)(f:ZB):Prop:=
 ∃(G:F_->Nat) (V:F_->ZB),g.ownsRow (B (A w)) 153 1 f (ZV b) (jW G b)/\(∀x∈b,EntAt w S G g (G x.e) (V x.e) x)/\b.Pairwise λx y=>G x.e≠G y.e
def oJ (w b:E)(r:jj)(v:ZB):Prop:=∃a c,v=ZJ #[J I r.M,U r.H,Y a (ZV r.R) c]/\b.ownsRow (B (A w)) 9 1 (Y a (ZV r.R) c) (ZV r.R) (bO r.R)
def Dn (w:E)(S:x_)(b:List zt × jj)(e:Ending)(g:E):Prop:=
 ∃i h j,Below (B (A w)) w i/\e=ZI (.tuple #[h,j])/\lF i S g b.1 h/\oJ w g b.2 j/\Below (B (A w)) w g/\(b.1≠[]->∀b off n f,0<n->Q_ i b off n f->Q_ g b off n f)
def Gj{c:Nat}(h:w.heap[b]?=T (N #[Y a m c] t (0,0)))(hn:0<n)(i:Q_ w b off n f):False:=by
 have g:=(i.2 0 hn).1;simp only[World.cell?,h,UR,QF] at g;match off,g with
 |0,g=>simp at g
 |k+1,g=>simp at g
def Gk{z:Int}{x:F_}{c:Nat}(h:w.heap[b]?=T (N #[J I z,U x,Y a m c] t (0,0)))(hn:0<n)(i:Q_ w b off n f):False:=by
 have g:=(i.2 0 hn).1;have h2:=(i.2 0 hn).2.2;simp only[World.cell?,h,UR,QF] at g h2;match off,g,h2 with
 |0,g,h2=>simp at h2
 |1,g,h2=>simp at g
 |2,g,h2=>simp at g
 |k+3,g,h2=>simp at g
def pQ (w:E)(S:x_)(f:E):lF w S f [] (Y Z 0 0):=⟨λ_=>0,λ_=>Y Z 0 0,⟨rfl,.inl ⟨rfl,rfl⟩⟩,λ_ b=>absurd b nj,List.Pairwise.nil⟩
def kw (w b:E)(c:Int)(t:F_):oJ w b ⟨c,t,[]⟩ (ZJ #[J I c,U t,Y Z 0 0]):=⟨Z,0,rfl,⟨rfl,.inl ⟨rfl,rfl⟩⟩⟩
def Ay (nm tx:F_)(b g:Int)(m:O_)(h l:Nat)(w:E):Calls Pg 135 #[ZJ #[U nm,J I b,J I g,U tx,Y m h l,Y Z 0 0]] w λe n=>e=ZI (if b=2 then ZJ #[J I 4,U nm,Y Z 0 0] else ZJ #[J I g,U tx,Y Z 0 0])/\Below (B (A w)) w n:=by
 have i:=ae ((BS w).alloc ly (N #[U nm,J I b,J I g,U tx,Y m h l,Y Z 0 0] 58));by_cases f:b=2
 ·rw[eT f];have j:(b == 2)=ZH:=by simpa using f
  go_enter func135,ntmps135;go_wp2;refine bp (v:=ZJ #[J I 4,U nm,Y Z 0 0]) (by simp[results,results135,go_sem]) rfl ⟨rfl,?_⟩;exact((BS w).alloc ly _).alloc (by simp) _
 ·rw[eI f];have j:(b == 2)=ZA:=by simpa using f
  go_enter func135,ntmps135;go_wp2;refine bp (v:=ZJ #[J I g,U tx,Y Z 0 0]) (by simp[results,results135,go_sem]) rfl ⟨rfl,?_⟩;exact i.alloc i.size _
def BSt (w W:E)(u v:ZB):Prop:=Below (B (A w)) w W/\W.heap[B (A w)]?=T (N #[u,v] 29 (0,0))/\W.heap[B (A w)+1]?=T (N #[Y Z 0 0] 150 (0,0))/\W.heap[B (A w)+1+1]?=T (N #[J I 0,U ⟨#[]⟩,Y Z 0 0] 60 (0,0))
def Io (w:E)(u v:ZB):BSt w (((w.alloc (N #[u,v] 29)).alloc (N #[Y Z 0 0] 150)).alloc (N #[J I 0,U ⟨#[]⟩,Y Z 0 0] 60)) u v:=by
 refine⟨(((BS w).alloc ly _).alloc (by simp) _).alloc (by simp<;>omega) _,((((a8 (B (A w)+1) _).alloc (by simp) _).alloc (by simp<;>omega) _).p (B (A w)) (by omega)).k (gM w _),?_,?_⟩;{have h2:=gM (w.alloc (N #[u,v] 29)) (N #[Y Z 0 0] 150);rw[show(w.alloc (N #[u,v] 29)).heap.size=B (A w)+1 by simp] at h2;exact(((a8 (B (A w)+2) _).alloc (by simp) _).p (B (A w)+1) (by omega)).k h2};{have h2:=gM ((w.alloc (N #[u,v] 29)).alloc (N #[Y Z 0 0] 150)) (N #[J I 0,U ⟨#[]⟩,Y Z 0 0] 60);rw[show((w.alloc (N #[u,v] 29)).alloc (N #[Y Z 0 0] 150)).heap.size=B (A w)+1+1 by simp] at h2;exact h2}
section
variable {w W W':E}{u v:ZB}
def BSt.aa (h:BSt w W u v)(b:Below (B (A W)) W W'):BSt w W' u v:=
 ⟨h.1.k (b.P h.1.size),(b.p _ (ah h.2.1)).k h.2.1,(b.p _ (ah h.2.2.1)).k h.2.2.1,(b.p _ (ah h.2.2.2)).k h.2.2.2⟩
def BSt.fin (h:BSt w W u v)(g b i f:ZB):Below (B (A w)) w (ZU (ZU (ZU (ZU W (Q (B (A w)+1) 0 Z) g) (Q (B (A w)+1+1) 0 Z) b) (Q (B (A w)+1+1) 1 Z) i) (Q (B (A w)+1+1) 2 Z) f):=
 (((h.1.setCell (WP _ 1) g).setCell (WP _ 2) b).setCell (WP _ 2) i).setCell (WP _ 2) f
def BSt.args (h:BSt w W u v):ZW W (Q (B (A w)) 0 Z)=T u/\ZW W (Q (B (A w)) 1 Z)=T v/\(B (A w))+3<=B (A W):=
 ⟨by simp[World.cell?,h.2.1],by simp[World.cell?,h.2.1],ah h.2.2.2⟩
def BSt.row (h:BSt w W u v):B (A w)+1<B (A W)/\ZW W (Q (B (A w)+1) 0 Z)=T (Y Z 0 0)/\W.frozen? (Q (B (A w)+1) 0 Z)=ZA:=
 ⟨ah h.2.2.1,by simp[World.cell?,h.2.2.1],by simp[World.frozen?,h.2.2.1]⟩
end
section
variable {S:x_}{a0 a1:O_}{c0 c1:Nat}
def EntAt.setLow{f:E}{G:F_->Nat}{v:ZB}{x:zt}(h:EntAt f S G w b v x){k:Nat}(hk:k<B (A f))(j:Nat)(u:ZB):EntAt f S G (ZU w (Q k j Z) u) b v x:=by obtain⟨⟨act,hb,l⟩,i,g⟩:=h;refine⟨⟨act,(qh _ _ _ _ (show b≠k by omega)).k hb,l⟩,i,aB g (λe=>?_) _ _⟩;have:=(af g k e).1;omega
def mK{g:E}{b:List zt}{f:ZB}(h:lF g S w b f){k:Nat}(m:k<B (A g))(j:Nat)(u:ZB):lF g S (ZU w (Q k j Z) u) b f:=by obtain⟨G,V,h1,h2,i⟩:=h;refine⟨G,V,aB h1 (λe=>?_) _ _,λx l=>(h2 x l).setLow m j u,i⟩;have:=(af h1 k e).1;omega
def Gl (w:E):(Instr.makeMap 200 Z).run Pg w=.ok (.map (T (B (A w)))) (w.alloc (.map #[] 0)):=by kernel_rfl
def wv (S:x_):dU S [] []<=S.n1:=by have:=UC (p:=js S [] []) (l:=List.range S.n1);rw[List.length_range] at this;exact this
def Do (w:E)(nm:F_)(Id:Qx w a0 S.n0 S.f0)(DE:Qq w a1 S.n1 S.f1)(hn0:S.n0<=1048576)(hn1:S.n1<=1048576)(sm:∀i,i<S.n1->aP (S.f1 i))(hT:Tab w)(GS:Tab2 w)(hP:Pow w):Calls Pg 90 #[ZJ #[Y a0 S.n0 c0,Y a1 S.n1 c1],U nm] w λe w'=>Dn w S (bE S nm) e w':=by
 have V0:=ae Id;have V1:=ae DE;have JT:=ae sm;have th:=ae hT;have ur:=ae GS;have JR:=ae hP;obtain⟨ck,Bk⟩:∃ck,ck=aR S.n0 S.f0 S.n1 S.f1:=⟨_,rfl⟩
 have ZL:=ae Bk;obtain⟨kn,Fd⟩:∃kn,kn=aA nm:=⟨_,rfl⟩
 have aq:=ae Fd;obtain⟨P,qr⟩:∃P,P=bE S nm:=⟨_,rfl⟩
 have HP:=ae qr;rw[<-qr];clear Id DE sm hT GS hP Bk Fd qr;have hmm:=Gl;have hmf:∀(fn:Fn) (first j_:Array ZB) (w:E),(Instr.makeFunc fn first j_).run Pg w=.ok (.func fn first j_) w:=λ_ _ _ _=>rfl;have ZQ:=ae (Io w (Y a0 S.n0 c0) (Y a1 S.n1 c1));obtain⟨s0,s1,zS⟩:=ZQ.args;go_enter_defers func90,ntmps90;go_wp2_with fail;generalize World.alloc (World.alloc (World.alloc w _) _) _=W0 at ZQ s0 s1 zS ⊢;refine(mU a0 S.n0 c0 S.f0 a1 S.n1 c1 S.f1 _ (by omega) (by omega) (V0.aa ZQ.1 ly) (V1.aa ZQ.1 ly) JT (th.aa ZQ.1 th.1)).P ?_;rintro e w1⟨ZT,p⟩;rw[<-ZL.i] at ZT;subst ZT;have r:=ae (ZQ.aa p);clear p s0 s1 zS ZQ;by_cases hc:ck=0;case' pos =>subst hc;go_wp2_with fail;refine(fu nm w1).P ?_;rintro e j⟨ZT,p⟩;rw[<-aq.i] at ZT;subst ZT;replace r:=ae (r.aa p);clear p;cases kn
 case true =>
  have Hx:=ae aq.c;have ZM:=ae (SpcOk.of ZL.c);have hq:P=match aT S 60 [] [] nm with | .inl (m,e)=>(m,dt e) | .inr (.inl c)=>([],⟨6,⟨#[]⟩,c⟩) | .inr (.inr d)=>([],⟨7,d,[]⟩):=by rw[HP.i];exact eT ⟨ZL.c,aq.c⟩
  generalize hR:aT S 60 [] [] nm=R at hq;have HR:=ae hR.c;clear HP hR;subst hq;have G:=ae r.1;have n8:=ae r.2.2.1;have fd:=ae r.2.2.2;obtain⟨q0,q1,hz2⟩:=r.args;have AM:=ae ((BS j).alloc ly (.map #[] 0));have AK:=ae (AM.alloc (by simp) (N #[Y a0 S.n0 c0,Y a1 S.n1 c1,.map (T (B (A j))),Y Z 0 0,Y Z 0 0] 202));have CX:Hid (Ctx j S a0 c0 a1 c1):=⟨V0.aa G ly,V1.aa G ly,ZM,ur.aa G ur.1,JR.aa G ly,λi hi=>by have:=ZM.H i hi;unfold maxLen;omega⟩
  have zM:(j.alloc (.map #[] 0)).heap.size=B (A j)+1:=by simp
  have At:Hid (MI j S (B (A j)+1) (B (A j)) (Y a0 S.n0 c0) (Y a1 S.n1 c1) ((j.alloc (.map #[] 0)).alloc (N #[Y a0 S.n0 c0,Y a1 S.n1 c1,.map (T (B (A j))),Y Z 0 0,Y Z 0 0] 202)) [] [] [] (λ_=>0) (λ_=>Y Z 0 0) (Y Z 0 0) (Y Z 0 0)):=by
   refine⟨AK,BV _,p7 _,?_,⟨rfl,.inl ⟨rfl,rfl⟩⟩,⟨rfl,.inl ⟨rfl,rfl⟩⟩,?_,λ_ hx=>absurd hx nj,List.Pairwise.nil⟩;{have h2:=gM (j.alloc (.map #[] 0)) (N #[Y a0 S.n0 c0,Y a1 S.n1 c1,.map (T (B (A j))),Y Z 0 0,Y Z 0 0] 202);rw[zM] at h2;exact h2};{refine((FK j).ad (((a8 (B (A j)+1) _).alloc (by simp) _).p (B (A j)) (by omega))).congr λs=>?_;simp[dK]}
  have JH:Hid (eX S [] [] 1):=by have h1:=wv S;have h2:=ZM.bb;unfold eX;show _<=_;simp;omega
  go_wp2_with fail;clear q0 q1;generalize World.alloc (World.alloc j _) _=W3 at AK At ⊢;refine(F3 CX 60 [] [] _ _ _ _ W3 nm rfl At (gv S []) JH Hx).P ?_;intro e q t;rw[<-HR.i] at t;rcases R with⟨m,x⟩|c|d
  ·obtain⟨G',V',mk',md',rfl,hM,hE,ZX⟩:=t;obtain⟨JW,-,hx,JL⟩:=dm ZM 60 [] [] nm m x (gv S []) Hx HR.c;obtain⟨act,DQ,D⟩:=(hM.W x hx).ad;obtain⟨aa,na,ca,rfl⟩:∃a n c,act=Y a n c:=by
    unfold oF at D;split at D;{obtain⟨_,a,c,e,_⟩:=D;exact⟨a,_,c,e⟩};{exact⟨_,_,_,D⟩}
   obtain⟨L,ZS,rfl⟩:=bM hM.X;obtain⟨rc,rt,ph,Fk⟩:∃rc rt,(if x.m=2 then Value.agg #[J I 4,U x.e,Y Z 0 0] else ZJ #[J I x.M,U x.H,Y Z 0 0])=ZJ #[J I rc,U rt,Y Z 0 0]/\dt x=⟨rc,rt,[]⟩:=by
    unfold dt;split;{exact⟨_,_,rfl,rfl⟩};{exact⟨_,_,rfl,rfl⟩}
   have JJ:=ae ph;have JX:=ae Fk;have M4:=ae hM;have o:=ae hM.ak;have JG:=(hM.W x hx).ge;have bt:=ae DQ;obtain⟨l,Fm⟩:∃l,l=G' x.e:=⟨_,rfl⟩
   rw[<-Fm] at bt JG ⊢;have SQ:Hid (∀V:E,V.heap[B (A j)+1]?=q.heap[B (A j)+1]?->V.heap[l]?=q.heap[l]?->ZW V (Q (B (A j)+1) 4 Z)=T (Y L (ZV m) ZS)/\ZW V (Q l 0 Z)=T (U x.e)/\ZW V (Q l 1 Z)=T (J I x.m)/\ZW V (Q l 2 Z)=T (J I x.M)/\ZW V (Q l 3 Z)=T (U x.H)/\ZW V (Q l 4 Z)=T (Y aa na ca)/\ZW V (Q l 5 Z)=T (Y Z 0 0)):=λV h1 h2=>by obtain⟨-,-,-,-,-,e4,-⟩:=M4.ab.K;obtain⟨-,e0,e1,e2,e3,e5,e6,-,-,-⟩:=bt.K;exact⟨(cq (a:=(Q (B (A j)+1) 4 Z)) h1).k e4,(cq (a:=(Q l 0 Z)) h2).k e0,(cq (a:=(Q l 1 Z)) h2).k e1,(cq (a:=(Q l 2 Z)) h2).k e2,(cq (a:=(Q l 3 Z)) h2).k e3,(cq (a:=(Q l 4 Z)) h2).k e5,(cq (a:=(Q l 5 Z)) h2).k e6⟩
   have O:=ah hM.ab;have H:=ah bt.i;clear hM hE ZX JW hx JL DQ D ph Fk Fm;go_wp2_with fail;refine wp_region_noPanic ?_;refine wp_region_held_drew (S:=λV=>ZW V (Q (B (A j)+1) 4 Z)=T (Y L (ZV m) ZS)/\ZW V (Q l 0 Z)=T (U x.e)/\ZW V (Q l 1 Z)=T (J I x.m)/\ZW V (Q l 2 Z)=T (J I x.M)/\ZW V (Q l 3 Z)=T (U x.H)/\ZW V (Q l 4 Z)=T (Y aa na ca)/\ZW V (Q l 5 Z)=T (Y Z 0 0)) (by as_aux_lemma=>kernel_rfl) (SQ _ rfl rfl) λhS=>?_;have HS:=ae hS;clear hS;iterate 6
    first|refine aN 0 (v:=?_) rfl rfl (by as_aux_lemma=>kernel_rfl) (λ_ _ _ h=>h) rfl ?_ HS ?_|refine aN 2 (v:=?_) rfl rfl (by as_aux_lemma=>kernel_rfl) (λ_ _ _ h=>h) rfl ?_ HS ?_
    rotate_left
    ·(rintro wz⟨s0,s1,s2,s3,s4,s5,s6⟩;go_simp)
     (try with_reducible rfl)
    (try simp only[Act.put,yh])
   refine aL (i:=6) rfl (by as_aux_lemma=>kernel_rfl) λK ZX=>?_;go_simp;go_at_call 135;refine(Ay x.e x.H x.m x.M aa na ca _).P ?_;rintro e ZR⟨ZT,p⟩;rw[JJ.i] at ZT;subst ZT;have ZY:Hid (Below (B (A q)) q ZR):=⟨p.os,p.tape,p.output,p.size,p.p⟩
   clear p HS;have HS:=ae (SQ ZR (ZY.p _ O) (ZY.p _ H));refine ZX _ _ HS ?_;clear ZX K
   (try simp only[Act.put,yh])
   have z:=ae (r.aa (o.k (ZY.P o.size)));obtain⟨hpl,M,JQ⟩:=z.row;obtain⟨rl,r0,r1,ZP,C⟩:=dL z.2.2.2;have JN:=C 0;have JV:=C 1;have JI:=C 2;clear C;have JP:Hid (lF j S ZR m (Y L (ZV m) ZS)):=⟨G',V',J_ M4.X ZY ly,λy hy=>(M4.W y hy).kx (KX.q (X:=XN) ZY ly M4.lt) (λh=>h) (λ_ _ h=>h),M4.dist⟩
   have ld:B (A w)+1≠B (A j)+1:=by omega
   have la:B (A w)+1≠l:=by omega
   refine aL (i:=7) rfl (by as_aux_lemma=>kernel_rfl) λK ZX=>?_;go_simp;have JK:=ae (SQ (ZU ZR (Q (B (A w)+1) 0 Z) (Y L (ZV m) ZS)) ((qh _ _ _ _ ld.c).k (ZY.p _ O)) ((qh _ _ _ _ la.c).k (ZY.p _ H)));refine ZX _ _ JK ?_;clear ZX K HS
   (try simp only[Act.put])
   have ZN:B (A w)+1+1≠B (A j)+1:=by omega
   have ZO:B (A w)+1+1≠l:=by omega
   have JS:=ae (SQ (ZU (ZU (ZU (ZU ZR (Q (B (A w)+1) 0 Z) (Y L (ZV m) ZS)) (Q (B (A w)+1+1) 0 Z) (J I rc)) (Q (B (A w)+1+1) 1 Z) (U rt)) (Q (B (A w)+1+1) 2 Z) (Y Z 0 0)) ((qh _ _ _ _ ZN.c).k ((qh _ _ _ _ ZN.c).k ((qh _ _ _ _ ZN.c).k ((qh _ _ _ _ ld.c).k (ZY.p _ O))))) ((qh _ _ _ _ ZO.c).k ((qh _ _ _ _ ZO.c).k ((qh _ _ _ _ ZO.c).k ((qh _ _ _ _ la.c).k (ZY.p _ H))))));have JO:=ae (mK (mK (mK (mK JP (show (B (A w))+1<B (A j) by omega) 0 (Y L (ZV m) ZS)) (show (B (A w))+1+1<B (A j) by omega) 0 (J I rc)) (show (B (A w))+1+1<B (A j) by omega) 1 (U rt)) (show (B (A w))+1+1<B (A j) by omega) 2 (Y Z 0 0));refine aL (i:=8) rfl (by as_aux_lemma=>kernel_rfl) λK ZX=>?_;go_simp;refine ZX _ _ JS ?_;clear ZX K
   (try simp only[Act.put])
   refine wpAnyH_done (by as_aux_lemma=>kernel_rfl) ?_ _;refine NoPanic.normal ?_;go_wp2_with fail;refine leaves_cons (f:=132) (args:=#[.pointer (T (Q (B (A w)+1) 0 Z)),.pointer (T (Q (B (A w)+1+1) 0 Z))]) (by simp) (by simp[go_sem]) ?_;refine(Ax (Q (B (A w)+1) 0 Z) (Q (B (A w)+1+1) 0 Z) _).P ?_;rintro e u' w6⟨rfl,rfl,rfl⟩;show Leaves _ _ _ _ [] .returning _;refine⟨.tuple #[Y L (ZV m) ZS,ZJ #[J I rc,U rt,Y Z 0 0]],by simp[results,YQ,go_sem,M,r0,r1,ZP],?_⟩;refine⟨j,_,_,G,rfl,JO,by rw[JX.i];exact kw _ _ _ _,z.fin _ _ _ _,λ_ b off n f hn0 mv=>?_⟩;have JM:b≠B (A w)+1:=λe=>Gj (by rw[e];exact n8) hn0 mv;have ro:b≠B (A w)+1+1:=λe=>Gk (by rw[e];exact fd) hn0 mv;exact((((((mv.aa o ly).aa ZY ly).setOther _ JM.c _).setOther _ ro.c _).setOther _ ro.c _).setOther _ ro.c _)
  ·obtain⟨u,rfl,h1,h2⟩:=t;obtain⟨g,cu,rfl⟩:=bM h1;have o:=ae (AK.k h2);have O4:=ae h1;go_wp2_with fail;have n9:q.heap[B (A w)+1]?=_:=(o.p _ (by omega)).k n8;have ex:q.heap[B (A w)+1+1]?=_:=(o.p _ (by omega)).k fd;refine leaves_cons (f:=132) (args:=#[.pointer (T (Q (B (A w)+1) 0 Z)),.pointer (T (Q (B (A w)+1+1) 0 Z))]) (by simp) (by simp[go_sem]) ?_;refine(o6 (B (A w)+1) (B (A w)+1+1) 235 _ [] 6 ⟨#[]⟩ g (ZV c) cu q (qU g (ZV c) cu q) _ _ _ _ _ _ n9 ex (by omega)).P ?_;rintro e u' w6⟨rfl,rfl,ZR,W,rfl⟩;have OB:Hid (∀k,k<B (A j)->(Value.slice g (ZV c) cu).ownBlock≠T k):=λk hk e=>by have:=(af O4 k e).1;omega
   have z:=ae (r.aa (o.k (W.P o.size)));obtain⟨hpl,M,-⟩:=z.row;obtain⟨rl,r0,r1,ZP,-⟩:=dL z.2.2.2;show Leaves _ _ _ _ [] .returning _;refine⟨.tuple #[Y Z 0 0,ZJ #[J I 6,U ⟨#[]⟩,(Y g (ZV c) cu)]],by simp[results,YQ,go_sem,M,r0,r1,ZP],?_⟩;exact⟨j,_,_,G,rfl,pQ _ _ _,⟨g,cu,rfl,aE (aB (aB (aB (aB (J_ O4 W ly) (OB _ (by omega)) _ _) (OB _ (by omega)) _ _) (OB _ (by omega)) _ _) (OB _ (by omega)) _ _) (by omega)⟩,z.fin _ _ _ _,λh=>absurd rfl h⟩
  {obtain⟨rfl,h2⟩:=t;have o:=ae (AK.k h2);go_wp2_with fail;have n9:q.heap[B (A w)+1]?=_:=(o.p _ (by omega)).k n8;have ex:q.heap[B (A w)+1+1]?=_:=(o.p _ (by omega)).k fd;refine leaves_cons (f:=132) (args:=#[.pointer (T (Q (B (A w)+1) 0 Z)),.pointer (T (Q (B (A w)+1+1) 0 Z))]) (by simp) (by simp[go_sem]) ?_;refine(o6 (B (A w)+1) (B (A w)+1+1) 237 _ [] 7 d Z 0 0 q (tY d q) _ _ _ _ _ _ n9 ex (by omega)).P ?_;rintro e u' w6⟨rfl,rfl,ZR,W,rfl⟩;have z:=ae (r.aa (o.k (W.P o.size)));obtain⟨hpl,M,-⟩:=z.row;obtain⟨rl,r0,r1,ZP,-⟩:=dL z.2.2.2;show Leaves _ _ _ _ [] .returning _;refine⟨.tuple #[Y Z 0 0,ZJ #[J I 7,U d,(Y Z 0 0)]],by simp[results,YQ,go_sem,M,r0,r1,ZP],?_⟩;exact⟨j,_,_,G,rfl,pQ _ _ _,kw _ _ _ _,z.fin _ _ _ _,λh=>absurd rfl h⟩}
 all_goals
  have hq:P=([],⟨9,⟨#[]⟩,[]⟩):=by rw[HP.i];exact eI λh=>by first|exact hc (ZL.k h.1)|exact absurd (aq.k h.2) (by simp)
  clear HP;subst hq
  (try have hc2:(ck == 0)=ZA:=by simpa using hc)
  obtain⟨hpl,M,JQ⟩:=r.row;obtain⟨rl,r0,r1,ZP,C⟩:=dL r.2.2.2;have JN:=C 0;have JV:=C 1;have JI:=C 2;clear C;go_wp2_with fail;refine⟨.tuple #[Y Z 0 0,ZJ #[J I 9,U ⟨#[]⟩,Y Z 0 0]],by simp[results,YQ,go_sem,M,r0,r1,ZP],?_⟩;exact⟨w,_,_,a8 _ _,rfl,pQ _ _ _,kw _ _ _ _,r.fin _ _ _ _,λh=>absurd rfl h⟩
end
