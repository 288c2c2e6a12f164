import Derived.Deep.RegionHeld3
import Derived.Test.YtcnilonhfpimnaaGreatDoorEL
import Derived.Defers
import Derived.Recover
set_option linter.all false
set_option maxRecDepth 1000000
set_option maxHeartbeats 8000000
open Go renaming Addr.mk->T,Value.slice->Y,Value.string->U,Value.int->J,Value.bool->ZF,Value.agg->ZJ,Obj.cells->N,IntKind.i64->I,World->E,Value->ZB,TypeId->ZK,Ending.returned->ZI,World.heap->A,World.cell?->ZW,World.setCell->ZU,Proofs.Tryz.prog->Pg,Act.put->p_,Calls->Qw
open Option renaming none->Z,some->Q
open Bool renaming false->ZA,true->ZH
open Array renaming size->B
open List renaming length->ZV
namespace Go.Proofs.YtcnilonhfpimnaaGreatDoor.Vp
open Tryz RowKit Go.Maps
variable {w:E}{b off n m:Nat}{f:Nat->Ins}{a:O_}{t:ZK}
def tm (v:ZB)(b:ZK)(w:E):(Instr.typeAssert (.iface 220 v) b 220 ZH).run Pg w=.ok (.tuple #[v,ZF ZH]) w:=by kernel_rfl
def tr (v:ZB)(b:ZK)(w:E):(Instr.typeAssert (.iface 222 v) b 220 ZH).run Pg w=.ok (.tuple #[ZJ #[Y Z 0 0],ZF ZA]) w:=by kernel_rfl
def yG (v:ZB)(b:ZK)(w:E):(Instr.typeAssert (.iface 222 v) b 222 ZH).run Pg w=.ok (.tuple #[v,ZF ZH]) w:=by kernel_rfl
def qU (a:O_)(n j_:Nat)(w:E):Qw Pg 115 #[.iface 220 (ZJ #[Y a n j_])] w λe b=>e=ZI (ZJ #[J I 6,U ⟨#[]⟩,Y a n j_])/\Below (B (A w)) w b:=by have t1:=tm;have t2:=tr;have t3:=yG;go_enter func115,ntmps115;go_wp2;refine bp (v:=ZJ #[J I 6,U ⟨#[]⟩,Y a n j_]) (by simp[results,results115,go_sem]) rfl ⟨rfl,?_⟩;exact((BS w).alloc ly _).alloc (by simp) _
def tY (d:F_)(w:E):Qw Pg 115 #[.iface 222 (ZJ #[U d])] w λe b=>e=ZI (ZJ #[J I 7,U d,Y Z 0 0])/\Below (B (A w)) w b:=by have t1:=tm;have t2:=tr;have t3:=yG;go_enter func115,ntmps115;go_wp2;refine bp (v:=ZJ #[J I 7,U d,Y Z 0 0]) (by simp[results,results115,go_sem]) rfl ⟨rfl,?_⟩;exact((BS w).alloc ly _).alloc (by simp) _
def Ax (p q:Addr)(w:E):CallsD Pg 114 #[.pointer (Q p),.pointer (Q q)] .returning w λe h g=>e=ZI (.tuple #[])/\h=.returning/\g=w:=by
 have hq:∀w:E,(binOp BinOp.neq 20 .nilIface .nilIface).run Pg w=.ok (ZF ZA) w:=λ_=>by kernel_rfl
 refine callsD_of_wpS func114 rfl λb cs f=>?_;apply wpS_seq;apply wpS_region;simp[wpOpsS,go_sem,recoverD,f,ntmps114,Exit.thenS];refine wpS_of_wp ?_;go_wp2;cases b
 simp_all[bodyPostS,results,results114]
def o6 (p q:Nat)(ZP:ZK)(m:ZB)(b:List PanicEntry)(c:Int)(t:F_)(u:O_)(sn z:Nat)(w:E)(ZS:Qw Pg 115 #[.iface ZP m] w λe j=>e=ZI (ZJ #[J I c,U t,Y u sn z])/\Below (B (A w)) w j)(x L D C:ZB)(K M:ZK)(r:w.heap[p]?=Q (N #[x] K (0,0)))(l:w.heap[q]?=Q (N #[L,D,C] M (0,0)))(s:¬ p=q):CallsD Pg 114 #[.pointer (Q (T p 0 Z)),.pointer (Q (T q 0 Z))] (.panicking ({ v:=.iface ZP m,recovered:=ZA } :: b)) w λe H j=>e=ZI (.tuple #[])/\H=.panicking ({ v:=.iface ZP m,recovered:=ZH } :: b)/\∃g,Below (B (A w)) w g/\j=ZU (ZU (ZU (ZU g (T p 0 Z) (Y Z 0 0)) (T q 0 Z) (J I c)) (T q 1 Z) (U t)) (T q 2 Z) (Y u sn z):=by
 refine callsD_of_wpS func114 rfl λn cs o=>?_;apply wpS_seq;apply wpS_region;simp[wpOpsS,go_sem,recoverD,o,ntmps114,Exit.thenS];have hnq:∀(w:E) (v:ZB),(binOp BinOp.neq 20 (.iface ZP v) .nilIface).run Pg w=.ok (ZF ZH) w:=λ_ _=>by kernel_rfl
 have G:=ae o;have ZT:=ae r;have ZR:=ae l;have hpl:=ah r;have y:=ah l;clear o r l;refine wpS_of_wp ?_;go_wp2_with fail;refine ZS.P ?_;rintro e g⟨rfl,h⟩;have ZX:=ae h;have f:=(h.p p hpl).k ZT;obtain⟨rl,r0,r1,r2,i⟩:=dL ((h.p q y).k ZR);have rf0:=i 0;have rf1:=i 1;have rf2:=i 2;have p0:ZW g (T p 0 Z)=Q x:=by simp[World.cell?,f]
 have pf0:g.frozen? (T p 0 Z)=ZA:=by simp[World.frozen?,f]
 have hpl1:=ah f;have hqp:¬ q=p:=λe=>s e.c;clear i h f;go_wp2;have ZY:=G.i;cases n
 simp only at ZY;subst ZY;refine⟨rfl,_,rfl,.tuple #[],by simp[results,results114],rfl,rfl,g,ZX,rfl⟩
open Ca
def lF (w:E)(S:xl)(g:E)(b:List k_)(f:ZB):Prop:=
 ∃(G:F_->Nat) (V:F_->ZB),g.ownsRow (B (A w)) 131 1 f (ZV b) (jW G b)/\(∀x∈b,EntAt w S G g (G x.e) (V x.e) x)/\b.Pairwise λx y=>G x.e≠G y.e
def oJ (w b:E)(r:jj)(v:ZB):Prop:=∃a c,v=ZJ #[J I r.M,U r.H,Y a (ZV r.R) c]/\b.ownsRow (B (A w)) 9 1 (Y a (ZV r.R) c) (ZV r.R) (bO r.R)
def Dn (w:E)(S:xl)(b:List k_ × jj)(e:Ending)(g:E):Prop:=
 ∃i h j,Below (B (A w)) w i/\e=ZI (.tuple #[h,j])/\lF i S g b.1 h/\oJ w g b.2 j/\Below (B (A w)) w g/\(b.1≠[]->∀b off n f,0<n->Q_ i b off n f->Q_ g b off n f)
def Gj{c:Nat}(h:w.heap[b]?=Q (N #[Y a m c] t (0,0)))(hn:0<n)(i:Q_ w b off n f):False:=by
 have g:=(i.2 0 hn).1;simp only[World.cell?,h,UR,QE] at g;match off,g with
 |0,g=>simp at g
 |k+1,g=>simp at g
def Gk{z:Int}{x:F_}{c:Nat}(h:w.heap[b]?=Q (N #[J I z,U x,Y a m c] t (0,0)))(hn:0<n)(i:Q_ w b off n f):False:=by
 have g:=(i.2 0 hn).1;have h2:=(i.2 0 hn).2.2;simp only[World.cell?,h,UR,QE] at g h2;match off,g,h2 with
 |0,g,h2=>simp at h2
 |1,g,h2=>simp at g
 |2,g,h2=>simp at g
 |k+3,g,h2=>simp at g
def pQ (w:E)(S:xl)(f:E):lF w S f [] (Y Z 0 0):=⟨λ_=>0,λ_=>Y Z 0 0,⟨rfl,.inl ⟨rfl,rfl⟩⟩,λ_ b=>absurd b nj,List.Pairwise.nil⟩
def kw (w b:E)(c:Int)(t:F_):oJ w b ⟨c,t,[]⟩ (ZJ #[J I c,U t,Y Z 0 0]):=⟨Z,0,rfl,⟨rfl,.inl ⟨rfl,rfl⟩⟩⟩
def Ay (nm tx:F_)(b f:Int)(j:O_)(m i:Nat)(w:E):Qw Pg 117 #[ZJ #[U nm,J I b,J I f,U tx,Y j m i,Y Z 0 0]] w λe n=>e=ZI (if b=2 then ZJ #[J I 4,U nm,Y Z 0 0] else ZJ #[J I f,U tx,Y Z 0 0])/\Below (B (A w)) w n:=by
 have h:=ae ((BS w).alloc ly (N #[U nm,J I b,J I f,U tx,Y j m i,Y Z 0 0] 62));by_cases g:b=2
 ·rw[eT g];have l:(b == 2)=ZH:=by simpa using g
  go_enter func117,ntmps117;go_wp2;refine bp (v:=ZJ #[J I 4,U nm,Y Z 0 0]) (by simp[results,results117,go_sem]) rfl ⟨rfl,?_⟩;exact((BS w).alloc ly _).alloc (by simp) _
 ·rw[eI g];have l:(b == 2)=ZA:=by simpa using g
  go_enter func117,ntmps117;go_wp2;refine bp (v:=ZJ #[J I f,U tx,Y Z 0 0]) (by simp[results,results117,go_sem]) rfl ⟨rfl,?_⟩;exact h.alloc h.size _
def BSt (w W:E)(u v:ZB):Prop:=Below (B (A w)) w W/\W.heap[B (A w)]?=Q (N #[u,v] 29 (0,0))/\W.heap[B (A w)+1]?=Q (N #[Y Z 0 0] 128 (0,0))/\W.heap[B (A w)+1+1]?=Q (N #[J I 0,U ⟨#[]⟩,Y Z 0 0] 88 (0,0))
def Io (w:E)(u v:ZB):BSt w (((w.alloc (N #[u,v] 29)).alloc (N #[Y Z 0 0] 128)).alloc (N #[J I 0,U ⟨#[]⟩,Y Z 0 0] 88)) u v:=by
 refine⟨(((BS w).alloc ly _).alloc (by simp) _).alloc (by simp<;>omega) _,((((a8 (B (A w)+1) _).alloc (by simp) _).alloc (by simp<;>omega) _).p (B (A w)) (by omega)).k (gM w _),?_,?_⟩;{have h2:=gM (w.alloc (N #[u,v] 29)) (N #[Y Z 0 0] 128);rw[show(w.alloc (N #[u,v] 29)).heap.size=B (A w)+1 by simp] at h2;exact(((a8 (B (A w)+2) _).alloc (by simp) _).p (B (A w)+1) (by omega)).k h2};{have h2:=gM ((w.alloc (N #[u,v] 29)).alloc (N #[Y Z 0 0] 128)) (N #[J I 0,U ⟨#[]⟩,Y Z 0 0] 88);rw[show((w.alloc (N #[u,v] 29)).alloc (N #[Y Z 0 0] 128)).heap.size=B (A w)+1+1 by simp] at h2;exact h2}
section
variable {w W W':E}{u v:ZB}
def BSt.aa (h:BSt w W u v)(b:Below (B (A W)) W W'):BSt w W' u v:=
 ⟨h.1.k (b.P h.1.size),(b.p _ (ah h.2.1)).k h.2.1,(b.p _ (ah h.2.2.1)).k h.2.2.1,(b.p _ (ah h.2.2.2)).k h.2.2.2⟩
def BSt.fin (h:BSt w W u v)(i g b f:ZB):Below (B (A w)) w (ZU (ZU (ZU (ZU W (T (B (A w)+1) 0 Z) i) (T (B (A w)+1+1) 0 Z) g) (T (B (A w)+1+1) 1 Z) b) (T (B (A w)+1+1) 2 Z) f):=
 (((h.1.setCell (WP _ 1) i).setCell (WP _ 2) g).setCell (WP _ 2) b).setCell (WP _ 2) f
def BSt.args (h:BSt w W u v):ZW W (T (B (A w)) 0 Z)=Q u/\ZW W (T (B (A w)) 1 Z)=Q v/\(B (A w))+3<=B (A W):=
 ⟨by simp[World.cell?,h.2.1],by simp[World.cell?,h.2.1],ah h.2.2.2⟩
def BSt.row (h:BSt w W u v):B (A w)+1<B (A W)/\ZW W (T (B (A w)+1) 0 Z)=Q (Y Z 0 0)/\W.frozen? (T (B (A w)+1) 0 Z)=ZA:=
 ⟨ah h.2.2.1,by simp[World.cell?,h.2.2.1],by simp[World.frozen?,h.2.2.1]⟩
end
section
variable {S:xl}{a0 a1:O_}{c0 c1:Nat}
def EntAt.setLow{f:E}{G:F_->Nat}{v:ZB}{x:k_}(h:EntAt f S G w b v x){k:Nat}(hk:k<B (A f))(j:Nat)(u:ZB):EntAt f S G (ZU w (T k j Z) u) b v x:=by obtain⟨⟨act,hb,i⟩,l,g⟩:=h;refine⟨⟨act,(qh _ _ _ _ (show b≠k by omega)).k hb,i⟩,l,aB g (λe=>?_) _ _⟩;have:=(af g k e).1;omega
def mK{g:E}{b:List k_}{f:ZB}(h:lF g S w b f){k:Nat}(m:k<B (A g))(j:Nat)(u:ZB):lF g S (ZU w (T k j Z) u) b f:=by obtain⟨G,V,h1,h2,i⟩:=h;refine⟨G,V,aB h1 (λe=>?_) _ _,λx l=>(h2 x l).setLow m j u,i⟩;have:=(af h1 k e).1;omega
def Gl (w:E):(Instr.makeMap 178 Z).run Pg w=.ok (.map (Q (B (A w)))) (w.alloc (.map #[] 0)):=by kernel_rfl
def wv (S:xl):dU S [] []<=S.n1:=by have:=UC (p:=js S [] []) (l:=List.range S.n1);rw[List.length_range] at this;exact this
def Do (w:E)(nm:F_)(Bk:Qx w a0 S.n0 S.f0)(DQ:Qq w a1 S.n1 S.f1)(hn0:S.n0<=1048576)(hn1:S.n1<=1048576)(la:∀i,i<S.n1->aP (S.f1 i))(hT:Tab w)(ur:Tab2 w)(hP:Pow w):Qw Pg 75 #[ZJ #[Y a0 S.n0 c0,Y a1 S.n1 c1],U nm] w λe w'=>Dn w S (bE S nm) e w':=by
 have V0:=ae Bk;have V1:=ae DQ;have JP:=ae la;have Hx:=ae hT;have Fk:=ae ur;have JR:=ae hP;obtain⟨ck,GS⟩:∃ck,ck=aR S.n0 S.f0 S.n1 S.f1:=⟨_,rfl⟩
 have ZL:=ae GS;obtain⟨kn,DE⟩:∃kn,kn=aA nm:=⟨_,rfl⟩
 have aq:=ae DE;obtain⟨P,ex⟩:∃P,P=bE S nm:=⟨_,rfl⟩
 have HP:=ae ex;rw[<-ex];clear Bk DQ la hT ur hP GS DE ex;have hmm:=Gl;have hmf:∀(fn:Fn) (first j_:Array ZB) (w:E),(Instr.makeFunc fn first j_).run Pg w=.ok (.func fn first j_) w:=λ_ _ _ _=>rfl;have ZQ:=ae (Io w (Y a0 S.n0 c0) (Y a1 S.n1 c1));obtain⟨s0,s1,zS⟩:=ZQ.args;go_enter_defers func75,ntmps75;go_wp2_with fail;generalize World.alloc (World.alloc (World.alloc w _) _) _=W0 at ZQ s0 s1 zS ⊢;refine(mU a0 S.n0 c0 S.f0 a1 S.n1 c1 S.f1 _ (by omega) (by omega) (V0.aa ZQ.1 ly) (V1.aa ZQ.1 ly) JP (Hx.aa ZQ.1 Hx.1)).P ?_;rintro e w1⟨ZT,r⟩;rw[<-ZL.i] at ZT;subst ZT;have q:=ae (ZQ.aa r);clear r s0 s1 zS ZQ;by_cases hc:ck=0;case' pos =>subst hc;go_wp2_with fail;refine(fu nm w1).P ?_;rintro e j⟨ZT,r⟩;rw[<-aq.i] at ZT;subst ZT;replace q:=ae (q.aa r);clear r;cases kn
 case true =>
  have Id:=ae aq.c;have ZM:=ae (SpcOk.of ZL.c);have hq:P=match aT S 60 [] [] nm with | .inl (m,e)=>(m,dt e) | .inr (.inl c)=>([],⟨6,⟨#[]⟩,c⟩) | .inr (.inr d)=>([],⟨7,d,[]⟩):=by rw[HP.i];exact eT ⟨ZL.c,aq.c⟩
  generalize hR:aT S 60 [] [] nm=R at hq;have HR:=ae hR.c;clear HP hR;subst hq;have ZR:=ae q.1;have qr:=ae q.2.2.1;have mv:=ae q.2.2.2;obtain⟨q0,q1,hz2⟩:=q.args;have AM:=ae ((BS j).alloc ly (.map #[] 0));have AK:=ae (AM.alloc (by simp) (N #[Y a0 S.n0 c0,Y a1 S.n1 c1,.map (Q (B (A j))),Y Z 0 0,Y Z 0 0] 180));have CX:Hid (Ctx j S a0 c0 a1 c1):=⟨V0.aa ZR ly,V1.aa ZR ly,ZM,Fk.aa ZR Fk.1,JR.aa ZR ly,λi hi=>by have:=ZM.H i hi;unfold maxLen;omega⟩
  have zM:(j.alloc (.map #[] 0)).heap.size=B (A j)+1:=by simp
  have th:Hid (MI j S (B (A j)+1) (B (A j)) (Y a0 S.n0 c0) (Y a1 S.n1 c1) ((j.alloc (.map #[] 0)).alloc (N #[Y a0 S.n0 c0,Y a1 S.n1 c1,.map (Q (B (A j))),Y Z 0 0,Y Z 0 0] 180)) [] [] [] (λ_=>0) (λ_=>Y Z 0 0) (Y Z 0 0) (Y Z 0 0)):=by
   refine⟨AK,BV _,p7 _,?_,⟨rfl,.inl ⟨rfl,rfl⟩⟩,⟨rfl,.inl ⟨rfl,rfl⟩⟩,?_,λ_ hx=>absurd hx nj,List.Pairwise.nil⟩;{have h2:=gM (j.alloc (.map #[] 0)) (N #[Y a0 S.n0 c0,Y a1 S.n1 c1,.map (Q (B (A j))),Y Z 0 0,Y Z 0 0] 180);rw[zM] at h2;exact h2};{refine((FK j).ad (((a8 (B (A j)+1) _).alloc (by simp) _).p (B (A j)) (by omega))).congr λs=>?_;simp[dK]}
  have JS:Hid (eX S [] [] 1):=by have h1:=wv S;have h2:=ZM.bb;unfold eX;show _<=_;simp;omega
  go_wp2_with fail;clear q0 q1;generalize World.alloc (World.alloc j _) _=W3 at AK th ⊢;refine(F3 CX 60 [] [] _ _ _ _ W3 nm rfl th (gv S []) JS Id).P ?_;intro e p t;rw[<-HR.i] at t;rcases R with⟨m,x⟩|c|d
  ·obtain⟨G',V',mk',md',rfl,hM,hE,ZY⟩:=t;obtain⟨JH,-,hx,JI⟩:=dm ZM 60 [] [] nm m x (gv S []) Id HR.c;obtain⟨act,At,D⟩:=(hM.W x hx).ad;obtain⟨aa,na,ca,rfl⟩:∃a n c,act=Y a n c:=by
    unfold oF at D;split at D;{obtain⟨_,a,c,e,_⟩:=D;exact⟨a,_,c,e⟩};{exact⟨_,_,_,D⟩}
   obtain⟨ZO,M,rfl⟩:=bM hM.X;obtain⟨rc,rt,ld,Fd⟩:∃rc rt,(if x.L=2 then Value.agg #[J I 4,U x.e,Y Z 0 0] else ZJ #[J I x.M,U x.H,Y Z 0 0])=ZJ #[J I rc,U rt,Y Z 0 0]/\dt x=⟨rc,rt,[]⟩:=by
    unfold dt;split;{exact⟨_,_,rfl,rfl⟩};{exact⟨_,_,rfl,rfl⟩}
   have JQ:=ae ld;have JJ:=ae Fd;have M4:=ae hM;have o:=ae hM.ak;have JG:=(hM.W x hx).ge;have sm:=ae At;obtain⟨l,Fm⟩:∃l,l=G' x.e:=⟨_,rfl⟩
   rw[<-Fm] at sm JG ⊢;have SQ:Hid (∀V:E,V.heap[B (A j)+1]?=p.heap[B (A j)+1]?->V.heap[l]?=p.heap[l]?->ZW V (T (B (A j)+1) 4 Z)=Q (Y ZO (ZV m) M)/\ZW V (T l 0 Z)=Q (U x.e)/\ZW V (T l 1 Z)=Q (J I x.L)/\ZW V (T l 2 Z)=Q (J I x.M)/\ZW V (T l 3 Z)=Q (U x.H)/\ZW V (T l 4 Z)=Q (Y aa na ca)/\ZW V (T l 5 Z)=Q (Y Z 0 0)):=λV h1 h2=>by obtain⟨-,-,-,-,-,e4,-⟩:=M4.ab.y;obtain⟨-,e0,e1,e2,e3,e5,e6,-,-,-⟩:=sm.y;exact⟨(cq (a:=(T (B (A j)+1) 4 Z)) h1).k e4,(cq (a:=(T l 0 Z)) h2).k e0,(cq (a:=(T l 1 Z)) h2).k e1,(cq (a:=(T l 2 Z)) h2).k e2,(cq (a:=(T l 3 Z)) h2).k e3,(cq (a:=(T l 4 Z)) h2).k e5,(cq (a:=(T l 5 Z)) h2).k e6⟩
   have L:=ah hM.ab;have H:=ah sm.i;clear hM hE ZY JH hx JI At D ld Fd Fm;go_wp2_with fail;refine wp_region_noPanic ?_;refine wp_region_held_drew (S:=λV=>ZW V (T (B (A j)+1) 4 Z)=Q (Y ZO (ZV m) M)/\ZW V (T l 0 Z)=Q (U x.e)/\ZW V (T l 1 Z)=Q (J I x.L)/\ZW V (T l 2 Z)=Q (J I x.M)/\ZW V (T l 3 Z)=Q (U x.H)/\ZW V (T l 4 Z)=Q (Y aa na ca)/\ZW V (T l 5 Z)=Q (Y Z 0 0)) (by as_aux_lemma=>kernel_rfl) (SQ _ rfl rfl) λhS=>?_;have HS:=ae hS;clear hS;iterate 6
    first|refine aN 0 (v:=?_) rfl rfl (by as_aux_lemma=>kernel_rfl) (λ_ _ _ h=>h) rfl ?_ HS ?_|refine aN 2 (v:=?_) rfl rfl (by as_aux_lemma=>kernel_rfl) (λ_ _ _ h=>h) rfl ?_ HS ?_
    rotate_left
    ·(rintro wz⟨s0,s1,s2,s3,s4,s5,s6⟩;go_simp)
     (try with_reducible rfl)
    (try simp only[p_,z_])
   refine aL (i:=6) rfl (by as_aux_lemma=>kernel_rfl) λK ZY=>?_;go_simp;go_at_call 117;refine(Ay x.e x.H x.L x.M aa na ca _).P ?_;rintro e ZN⟨ZT,r⟩;rw[JQ.i] at ZT;subst ZT;have ZX:Hid (Below (B (A p)) p ZN):=⟨r.os,r.tape,r.output,r.size,r.p⟩
   clear r HS;have HS:=ae (SQ ZN (ZX.p _ L) (ZX.p _ H));refine ZY _ _ HS ?_;clear ZY K
   (try simp only[p_,z_])
   have z:=ae (q.aa (o.k (ZX.P o.size)));obtain⟨hpl,ZP,JO⟩:=z.row;obtain⟨rl,r0,r1,G,C⟩:=dL z.2.2.2;have JV:=C 0;have JK:=C 1;have JW:=C 2;clear C;have JU:Hid (lF j S ZN m (Y ZO (ZV m) M)):=⟨G',V',J_ M4.X ZX ly,λy hy=>(M4.W y hy).kx (KX.l (X:=XN) ZX ly M4.lt) (λh=>h) (λ_ _ h=>h),M4.dist⟩
   have bt:B (A w)+1≠B (A j)+1:=by omega
   have ro:B (A w)+1≠l:=by omega
   refine aL (i:=7) rfl (by as_aux_lemma=>kernel_rfl) λK ZY=>?_;go_simp;have JL:=ae (SQ (ZU ZN (T (B (A w)+1) 0 Z) (Y ZO (ZV m) M)) ((qh _ _ _ _ bt.c).k (ZX.p _ L)) ((qh _ _ _ _ ro.c).k (ZX.p _ H)));refine ZY _ _ JL ?_;clear ZY K HS
   (try simp only[p_])
   have ZS:B (A w)+1+1≠B (A j)+1:=by omega
   have O:B (A w)+1+1≠l:=by omega
   have JN:=ae (SQ (ZU (ZU (ZU (ZU ZN (T (B (A w)+1) 0 Z) (Y ZO (ZV m) M)) (T (B (A w)+1+1) 0 Z) (J I rc)) (T (B (A w)+1+1) 1 Z) (U rt)) (T (B (A w)+1+1) 2 Z) (Y Z 0 0)) ((qh _ _ _ _ ZS.c).k ((qh _ _ _ _ ZS.c).k ((qh _ _ _ _ ZS.c).k ((qh _ _ _ _ bt.c).k (ZX.p _ L))))) ((qh _ _ _ _ O.c).k ((qh _ _ _ _ O.c).k ((qh _ _ _ _ O.c).k ((qh _ _ _ _ ro.c).k (ZX.p _ H))))));have JM:=ae (mK (mK (mK (mK JU (show (B (A w))+1<B (A j) by omega) 0 (Y ZO (ZV m) M)) (show (B (A w))+1+1<B (A j) by omega) 0 (J I rc)) (show (B (A w))+1+1<B (A j) by omega) 1 (U rt)) (show (B (A w))+1+1<B (A j) by omega) 2 (Y Z 0 0));refine aL (i:=8) rfl (by as_aux_lemma=>kernel_rfl) λK ZY=>?_;go_simp;refine ZY _ _ JN ?_;clear ZY K
   (try simp only[p_])
   refine wpAnyH_done (by as_aux_lemma=>kernel_rfl) ?_ _;refine NoPanic.normal ?_;go_wp2_with fail;refine leaves_cons (f:=114) (args:=#[.pointer (Q (T (B (A w)+1) 0 Z)),.pointer (Q (T (B (A w)+1+1) 0 Z))]) (by simp) (by simp[go_sem]) ?_;refine(Ax (T (B (A w)+1) 0 Z) (T (B (A w)+1+1) 0 Z) _).P ?_;rintro e u' w6⟨rfl,rfl,rfl⟩;show Leaves _ _ _ _ [] .returning _;refine⟨.tuple #[Y ZO (ZV m) M,ZJ #[J I rc,U rt,Y Z 0 0]],by simp[results,YQ,go_sem,ZP,r0,r1,G],?_⟩;refine⟨j,_,_,ZR,rfl,JM,by rw[JJ.i];exact kw _ _ _ _,z.fin _ _ _ _,λ_ b off n f hn0 n9=>?_⟩;have JX:b≠B (A w)+1:=λe=>Gj (by rw[e];exact qr) hn0 n9;have fd:b≠B (A w)+1+1:=λe=>Gk (by rw[e];exact mv) hn0 n9;exact((((((n9.aa o ly).aa ZX ly).setOther _ JX.c _).setOther _ fd.c _).setOther _ fd.c _).setOther _ fd.c _)
  ·obtain⟨u,rfl,h1,h2⟩:=t;obtain⟨g,cu,rfl⟩:=bM h1;have o:=ae (AK.k h2);have O4:=ae h1;go_wp2_with fail;have n8:p.heap[B (A w)+1]?=_:=(o.p _ (by omega)).k qr;have ph:p.heap[B (A w)+1+1]?=_:=(o.p _ (by omega)).k mv;refine leaves_cons (f:=114) (args:=#[.pointer (Q (T (B (A w)+1) 0 Z)),.pointer (Q (T (B (A w)+1+1) 0 Z))]) (by simp) (by simp[go_sem]) ?_;refine(o6 (B (A w)+1) (B (A w)+1+1) 220 _ [] 6 ⟨#[]⟩ g (ZV c) cu p (qU g (ZV c) cu p) _ _ _ _ _ _ n8 ph (by omega)).P ?_;rintro e u' w6⟨rfl,rfl,ZN,W,rfl⟩;have OB:Hid (∀k,k<B (A j)->(Value.slice g (ZV c) cu).ownBlock≠Q k):=λk hk e=>by have:=(af O4 k e).1;omega
   have z:=ae (q.aa (o.k (W.P o.size)));obtain⟨hpl,ZP,-⟩:=z.row;obtain⟨rl,r0,r1,G,-⟩:=dL z.2.2.2;show Leaves _ _ _ _ [] .returning _;refine⟨.tuple #[Y Z 0 0,ZJ #[J I 6,U ⟨#[]⟩,(Y g (ZV c) cu)]],by simp[results,YQ,go_sem,ZP,r0,r1,G],?_⟩;exact⟨j,_,_,ZR,rfl,pQ _ _ _,⟨g,cu,rfl,aE (aB (aB (aB (aB (J_ O4 W ly) (OB _ (by omega)) _ _) (OB _ (by omega)) _ _) (OB _ (by omega)) _ _) (OB _ (by omega)) _ _) (by omega)⟩,z.fin _ _ _ _,λh=>absurd rfl h⟩
  {obtain⟨rfl,h2⟩:=t;have o:=ae (AK.k h2);go_wp2_with fail;have n8:p.heap[B (A w)+1]?=_:=(o.p _ (by omega)).k qr;have ph:p.heap[B (A w)+1+1]?=_:=(o.p _ (by omega)).k mv;refine leaves_cons (f:=114) (args:=#[.pointer (Q (T (B (A w)+1) 0 Z)),.pointer (Q (T (B (A w)+1+1) 0 Z))]) (by simp) (by simp[go_sem]) ?_;refine(o6 (B (A w)+1) (B (A w)+1+1) 222 _ [] 7 d Z 0 0 p (tY d p) _ _ _ _ _ _ n8 ph (by omega)).P ?_;rintro e u' w6⟨rfl,rfl,ZN,W,rfl⟩;have z:=ae (q.aa (o.k (W.P o.size)));obtain⟨hpl,ZP,-⟩:=z.row;obtain⟨rl,r0,r1,G,-⟩:=dL z.2.2.2;show Leaves _ _ _ _ [] .returning _;refine⟨.tuple #[Y Z 0 0,ZJ #[J I 7,U d,(Y Z 0 0)]],by simp[results,YQ,go_sem,ZP,r0,r1,G],?_⟩;exact⟨j,_,_,ZR,rfl,pQ _ _ _,kw _ _ _ _,z.fin _ _ _ _,λh=>absurd rfl h⟩}
 all_goals
  have hq:P=([],⟨9,⟨#[]⟩,[]⟩):=by rw[HP.i];exact eI λh=>by first|exact hc (ZL.k h.1)|exact absurd (aq.k h.2) (by simp)
  clear HP;subst hq
  (try have hc2:(ck == 0)=ZA:=by simpa using hc)
  obtain⟨hpl,ZP,JO⟩:=q.row;obtain⟨rl,r0,r1,G,C⟩:=dL q.2.2.2;have JV:=C 0;have JK:=C 1;have JW:=C 2;clear C;go_wp2_with fail;refine⟨.tuple #[Y Z 0 0,ZJ #[J I 9,U ⟨#[]⟩,Y Z 0 0]],by simp[results,YQ,go_sem,ZP,r0,r1,G],?_⟩;exact⟨w,_,_,a8 _ _,rfl,pQ _ _ _,kw _ _ _ _,q.fin _ _ _ _,λh=>absurd rfl h⟩
end
