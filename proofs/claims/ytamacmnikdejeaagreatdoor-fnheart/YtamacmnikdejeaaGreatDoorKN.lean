import Derived.Deep.RegionHeld3
import Derived.Test.YtamacmnikdejeaaGreatDoorKF
import Derived.Defers
import Derived.Recover
set_option maxRecDepth 1000000
set_option maxHeartbeats 8000000
set_option linter.unusedSimpArgs false
open Go renaming Addr.mk->Q,Value.slice->Y,Value.string->U,Value.int->J,Value.bool->ZC,Value.agg->ZG,Obj.cells->N,IntKind.i64->I,World->E,Value->ZB,TypeId->ZH,Ending.returned->ZF,World.heap->B,World.cell?->z,Proofs.Tryz.prog->Pg
open Option renaming none->Z,some->T
open Bool renaming false->ZA,true->ZD
open Array renaming size->A
namespace Go.Proofs.YtamacmnikdejeaaGreatDoor.Vp
open Tryz RowKit Go.Maps
variable {b off n m:Nat}{w:E}{f:Nat->Ins}{a:Option Addr}{t:ZH}
theorem rY (v:ZB)(b:ZH)(w:E):(Instr.typeAssert (.iface 236 v) b 236 ZD).run Pg w=.ok (.tuple #[v,ZC ZD]) w:=by kernel_rfl
theorem rZ (v:ZB)(b:ZH)(w:E):(Instr.typeAssert (.iface 238 v) b 236 ZD).run Pg w=.ok (.tuple #[ZG #[Y Z 0 0],ZC ZA]) w:=by kernel_rfl
theorem xh (v:ZB)(b:ZH)(w:E):(Instr.typeAssert (.iface 238 v) b 238 ZD).run Pg w=.ok (.tuple #[v,ZC ZD]) w:=by kernel_rfl
theorem pZ (a:Option Addr)(n cap:Nat)(w:E):Calls Pg 125 #[.iface 236 (ZG #[Y a n cap])] w λe b=>e=ZF (ZG #[J I 6,U ⟨#[]⟩,Y a n cap])/\Below (A (B w)) w b:=by have t1:=rY;have t2:=rZ;have t3:=xh;go_enter func125,ntmps125;go_wp2;refine bp (v:=ZG #[J I 6,U ⟨#[]⟩,Y a n cap]) (by simp[results,results125,go_sem]) rfl ⟨rfl,?_⟩;exact((BS w).alloc ly _).alloc (by simp) _
theorem sP (d:ByteArray)(w:E):Calls Pg 125 #[.iface 238 (ZG #[U d])] w λe b=>e=ZF (ZG #[J I 7,U d,Y Z 0 0])/\Below (A (B w)) w b:=by have t1:=rY;have t2:=rZ;have t3:=xh;go_enter func125,ntmps125;go_wp2;refine bp (v:=ZG #[J I 7,U d,Y Z 0 0]) (by simp[results,results125,go_sem]) rfl ⟨rfl,?_⟩;exact((BS w).alloc ly _).alloc (by simp) _
theorem yS (p q:Addr)(w:E):CallsD Pg 124 #[.pointer (T p),.pointer (T q)] .returning w λe g h=>e=ZF (.tuple #[])/\g=.returning/\h=w:=by
 have hq:∀w:E,(binOp BinOp.neq 20 .nilIface .nilIface).run Pg w=.ok (ZC ZA) w:=λ_=>by kernel_rfl
 refine callsD_of_wpS func124 rfl λb cs f=>?_;apply wpS_seq;apply wpS_region;simp[wpOpsS,go_sem,recoverD,f,ntmps124,Exit.thenS];refine wpS_of_wp ?_;go_wp2;cases b
 simp_all[bodyPostS,results,results124]
theorem nY (p q:Nat)(ZL:ZH)(l:ZB)(b:List PanicEntry)(c:Int)(t:ByteArray)(s:Option Addr)(sn x:Nat)(w:E)(K:Calls Pg 125 #[.iface ZL l] w λe r=>e=ZF (ZG #[J I c,U t,Y s sn x])/\Below (A (B w)) w r)(u ZP ZQ ZO:ZB)(G L:ZH)(j:w.heap[p]?=T (N #[u] G (0,0)))(o:w.heap[q]?=T (N #[ZP,ZQ,ZO] L (0,0)))(ZT:¬ p=q):CallsD Pg 124 #[.pointer (T (Q p 0 Z)),.pointer (T (Q q 0 Z))] (.panicking ({ v:=.iface ZL l,recovered:=ZA } :: b)) w λe D r=>e=ZF (.tuple #[])/\D=.panicking ({ v:=.iface ZL l,recovered:=ZD } :: b)/\∃g,Below (A (B w)) w g/\r=(((g.setCell (Q p 0 Z) (Y Z 0 0)).setCell (Q q 0 Z) (J I c)).setCell (Q q 1 Z) (U t)).setCell (Q q 2 Z) (Y s sn x):=by
 refine callsD_of_wpS func124 rfl λm cs n=>?_;apply wpS_seq;apply wpS_region;simp[wpOpsS,go_sem,recoverD,n,ntmps124,Exit.thenS];have hnq:∀(w:E) (v:ZB),(binOp BinOp.neq 20 (.iface ZL v) .nilIface).run Pg w=.ok (ZC ZD) w:=λ_ _=>by kernel_rfl
 have M:=ae n;have H:=ae j;have ZS:=ae o;have hpl:=ah j;have ZR:=ah o;clear n j o;refine wpS_of_wp ?_;go_wp2_with fail;refine K.mono ?_;rintro e g ⟨rfl,h⟩;have C:=ae h;have f:=(h.block p hpl).trans H;obtain⟨rl,r0,r1,r2,i⟩:=dC ((h.block q ZR).trans ZS);have rf0:=i 0;have rf1:=i 1;have rf2:=i 2;have p0:z g (Q p 0 Z)=T u:=by simp[World.cell?,f]
 have pf0:g.frozen? (Q p 0 Z)=ZA:=by simp[World.frozen?,f]
 have hpl1:=ah f;have hqp:¬ q=p:=λe=>ZT e.symm;clear i h f;go_wp2;have y:=M.out;cases m
 simp only at y;subst y;refine⟨rfl,_,rfl,.tuple #[],by simp[results,results124],rfl,rfl,g,C,rfl⟩
open Ca
def ku (w:E)(S:Spc)(g:E)(b:List Ent)(f:ZB):Prop :=
 ∃(G:ByteArray->Nat) (V:ByteArray->ZB),g.ownsRow (A (B w)) 134 1 f b.length (jr G b)/\(∀x∈b,EntAt w S G g (G x.e) (V x.e) x)/\b.Pairwise λx y=>G x.e≠G y.e
def nF (w b:E)(r:jm)(v:ZB):Prop:=∃a c,v=ZG #[J I r.M,U r.H,Y a r.R.length c]/\b.ownsRow (A (B w)) 9 1 (Y a r.R.length c) r.R.length (bA r.R)
def AJ (w:E)(S:Spc)(b:List Ent × jm)(e:Ending)(g:E):Prop :=
 ∃i h j,Below (A (B w)) w i/\e=ZF (.tuple #[h,j])/\ku i S g b.1 h/\nF w g b.2 j/\Below (A (B w)) w g/\(b.1≠[]->∀b off n f,0<n->RowIns i b off n f->RowIns g b off n f)
theorem DZ{c:Nat}(h:w.heap[b]?=T (N #[Y a m c] t (0,0)))(hn:0<n)(i:RowIns w b off n f):False:=by
 have g:=(i.2 0 hn).1;simp only[World.cell?,h,QO,LX] at g;match off,g with
 |0,g=>simp at g
 |k+1,g=>simp at g
theorem Ea{ZT:Int}{x:ByteArray}{c:Nat}(h:w.heap[b]?=T (N #[J I ZT,U x,Y a m c] t (0,0)))(hn:0<n)(i:RowIns w b off n f):False:=by
 have g:=(i.2 0 hn).1;have h2:=(i.2 0 hn).2.2;simp only[World.cell?,h,QO,LX] at g h2;match off,g,h2 with
 |0,g,h2=>simp at h2
 |1,g,h2=>simp at g
 |2,g,h2=>simp at g
 |k+3,g,h2=>simp at g
theorem o6 (w:E)(S:Spc)(f:E):ku w S f [] (Y Z 0 0):=⟨λ_=>0,λ_=>Y Z 0 0,⟨rfl,.inl ⟨rfl,rfl⟩⟩,λ_ b=>absurd b nj,List.Pairwise.nil⟩
theorem jJ (w b:E)(c:Int)(t:ByteArray):nF w b ⟨c,t,[]⟩ (ZG #[J I c,U t,Y Z 0 0]):=⟨Z,0,rfl,⟨rfl,.inl ⟨rfl,rfl⟩⟩⟩
theorem yT (nm tx:ByteArray)(kd f:Int)(l:Option Addr)(h i:Nat)(w:E):Calls Pg 127 #[ZG #[U nm,J I kd,J I f,U tx,Y l h i,Y Z 0 0]] w λe m=>e=ZF (if kd=2 then ZG #[J I 4,U nm,Y Z 0 0] else ZG #[J I f,U tx,Y Z 0 0])/\Below (A (B w)) w m:=by
 have g:=ae ((BS w).alloc ly (N #[U nm,J I kd,J I f,U tx,Y l h i,Y Z 0 0] 46));by_cases b:kd=2
 ·rw[j6 b];have j:(kd == 2)=ZD:=by simpa using b
  go_enter func127,ntmps127;go_wp2;refine bp (v:=ZG #[J I 4,U nm,Y Z 0 0]) (by simp[results,results127,go_sem]) rfl ⟨rfl,?_⟩;exact((BS w).alloc ly _).alloc (by simp) _
 ·rw[eT b];have j:(kd == 2)=ZA:=by simpa using b
  go_enter func127,ntmps127;go_wp2;refine bp (v:=ZG #[J I f,U tx,Y Z 0 0]) (by simp[results,results127,go_sem]) rfl ⟨rfl,?_⟩;exact g.alloc g.size _
def BSt (w W:E)(u v:ZB):Prop:=Below (A (B w)) w W/\W.heap[A (B w)]?=T (N #[u,v] 29 (0,0))/\W.heap[A (B w)+1]?=T (N #[Y Z 0 0] 131 (0,0))/\W.heap[A (B w)+1+1]?=T (N #[J I 0,U ⟨#[]⟩,Y Z 0 0] 37 (0,0))
theorem FO (w:E)(u v:ZB):BSt w (((w.alloc (N #[u,v] 29)).alloc (N #[Y Z 0 0] 131)).alloc (N #[J I 0,U ⟨#[]⟩,Y Z 0 0] 37)) u v:=by
 refine⟨(((BS w).alloc ly _).alloc (by simp) _).alloc (by simp<;>omega) _,((((cM (A (B w)+1) _).alloc (by simp) _).alloc (by simp<;>omega) _).block (A (B w)) (by omega)).trans (gM w _),?_,?_⟩;{have h2:=gM (w.alloc (N #[u,v] 29)) (N #[Y Z 0 0] 131);rw[show(w.alloc (N #[u,v] 29)).heap.size=A (B w)+1 by simp] at h2;exact(((cM (A (B w)+2) _).alloc (by simp) _).block (A (B w)+1) (by omega)).trans h2};{have h2:=gM ((w.alloc (N #[u,v] 29)).alloc (N #[Y Z 0 0] 131)) (N #[J I 0,U ⟨#[]⟩,Y Z 0 0] 37);rw[show((w.alloc (N #[u,v] 29)).alloc (N #[Y Z 0 0] 131)).heap.size=A (B w)+1+1 by simp] at h2;exact h2}
section
variable {w W W':E}{u v:ZB}
theorem BSt.aa (h:BSt w W u v)(b:Below (A (B W)) W W'):BSt w W' u v :=
 ⟨h.1.trans (b.mono h.1.size),(b.block _ (ah h.2.1)).trans h.2.1,(b.block _ (ah h.2.2.1)).trans h.2.2.1,(b.block _ (ah h.2.2.2)).trans h.2.2.2⟩
theorem BSt.fin (h:BSt w W u v)(i b f g:ZB):Below (A (B w)) w ((((W.setCell (Q (A (B w)+1) 0 Z) i).setCell (Q (A (B w)+1+1) 0 Z) b).setCell (Q (A (B w)+1+1) 1 Z) f).setCell (Q (A (B w)+1+1) 2 Z) g) :=
 (((h.1.setCell (TM _ 1) i).setCell (TM _ 2) b).setCell (TM _ 2) f).setCell (TM _ 2) g
theorem BSt.args (h:BSt w W u v):z W (Q (A (B w)) 0 Z)=T u/\z W (Q (A (B w)) 1 Z)=T v/\(A (B w))+3<=A (B W) :=
 ⟨by simp[World.cell?,h.2.1],by simp[World.cell?,h.2.1],ah h.2.2.2⟩
theorem BSt.row (h:BSt w W u v):A (B w)+1<A (B W)/\z W (Q (A (B w)+1) 0 Z)=T (Y Z 0 0)/\W.frozen? (Q (A (B w)+1) 0 Z)=ZA :=
 ⟨ah h.2.2.1,by simp[World.cell?,h.2.2.1],by simp[World.frozen?,h.2.2.1]⟩
end
section
variable {S:Spc}{a0 a1:Option Addr}{c0 c1:Nat}
theorem EntAt.setLow{f:E}{G:ByteArray->Nat}{v:ZB}{x:Ent}(h:EntAt f S G w b v x){k:Nat}(hk:k<A (B f))(j:Nat)(u:ZB):EntAt f S G (w.setCell (Q k j Z) u) b v x:=by obtain⟨⟨act,hb,l⟩,i,g⟩:=h;refine⟨⟨act,(qh _ _ _ _ (show b≠k by omega)).trans hb,l⟩,i,aA g (λe=>?_) _ _⟩;have:=(af g k e).1;omega
theorem lQ{g:E}{b:List Ent}{f:ZB}(h:ku g S w b f){k:Nat}(l:k<A (B g))(j:Nat)(u:ZB):ku g S (w.setCell (Q k j Z) u) b f:=by obtain⟨G,V,h1,h2,m⟩:=h;refine⟨G,V,aA h1 (λe=>?_) _ _,λx i=>(h2 x i).setLow l j u,m⟩;have:=(af h1 k e).1;omega
theorem Eb (w:E):(Instr.makeMap 194 Z).run Pg w=.ok (.map (T (A (B w)))) (w.alloc (.map #[] 0)):=by kernel_rfl
theorem uU (S:Spc):dN S [] []<=S.n1:=by have:=PX (p:=iN S [] []) (l:=List.range S.n1);rw[List.length_range] at this;exact this
theorem AN (w:E)(nm:ByteArray)(DS:SlSource w a0 S.n0 S.f0)(DE:SlTarget w a1 S.n1 S.f1)(hn0:S.n0<=1048576)(hn1:S.n1<=1048576)(ex:∀i,i<S.n1->aX (S.f1 i))(hT:Tab w)(Fk:Tab2 w)(hP:Pow w):Calls Pg 75 #[ZG #[Y a0 S.n0 c0,Y a1 S.n1 c1],U nm] w λe w'=>AJ w S (aV S nm) e w':=by
 have V0:=ae DS;have V1:=ae DE;have Hd:=ae ex;have ur:=ae hT;have sm:=ae Fk;have Hm:=ae hP;obtain⟨ck,At⟩:∃ck,ck=bq S.n0 S.f0 S.n1 S.f1:=⟨_,rfl⟩
 have aq:=ae At;obtain⟨kn,Bk⟩:∃kn,kn=aB nm:=⟨_,rfl⟩
 have ZI:=ae Bk;obtain⟨P,mv⟩:∃P,P=aV S nm:=⟨_,rfl⟩
 have HP:=ae mv;rw[<-mv];clear DS DE ex hT Fk hP At Bk mv;have hmm:=Eb;have hmf:∀(fn:Fn) (first cap:Array ZB) (w:E),(Instr.makeFunc fn first cap).run Pg w=.ok (.func fn first cap) w:=λ_ _ _ _=>rfl;have ZN:=ae (FO w (Y a0 S.n0 c0) (Y a1 S.n1 c1));obtain⟨s0,s1,zS⟩:=ZN.args;go_enter_defers func75,ntmps75;go_wp2_with fail;generalize World.alloc (World.alloc (World.alloc w _) _) _=W0 at ZN s0 s1 zS ⊢;refine(lW a0 S.n0 c0 S.f0 a1 S.n1 c1 S.f1 _ (by omega) (by omega) (V0.aa ZN.1 ly) (V1.aa ZN.1 ly) Hd (ur.aa ZN.1 ur.1)).mono ?_;rintro e w1 ⟨ZQ,r⟩;rw[<-aq.out] at ZQ;subst ZQ;have q:=ae (ZN.aa r);clear r s0 s1 zS ZN;by_cases hc:ck=0;case' pos =>subst hc;go_wp2_with fail;refine(eV nm w1).mono ?_;rintro e j ⟨ZQ,r⟩;rw[<-ZI.out] at ZQ;subst ZQ;replace q:=ae (q.aa r);clear r;cases kn
 case true =>
  have ro:=ae ZI.symm;have ZJ:=ae (SpcOk.of aq.symm);have hq:P=match aP S 60 [] [] nm with | .inl (m,e)=>(m,dk e) | .inr (.inl c)=>([],⟨6,⟨#[]⟩,c⟩) | .inr (.inr d)=>([],⟨7,d,[]⟩):=by rw[HP.out];exact j6 ⟨aq.symm,ZI.symm⟩
  generalize hR:aP S 60 [] [] nm=R at hq;have HR:=ae hR.symm;clear HP hR;subst hq;have ZO:=ae q.1;have n7:=ae q.2.2.1;have bt:=ae q.2.2.2;obtain⟨q0,q1,hz2⟩:=q.args;have AM:=ae ((BS j).alloc ly (.map #[] 0));have AK:=ae (AM.alloc (by simp) (N #[Y a0 S.n0 c0,Y a1 S.n1 c1,.map (T (A (B j))),Y Z 0 0,Y Z 0 0] 196));have CX:Hid (Ctx j S a0 c0 a1 c1):=⟨V0.aa ZO ly,V1.aa ZO ly,ZJ,sm.aa ZO sm.1,Hm.aa ZO ly,λi hi=>by have:=ZJ.H i hi;unfold maxLen;omega⟩
  have zM:(j.alloc (.map #[] 0)).heap.size=A (B j)+1:=by simp
  have Fd:Hid (MI j S (A (B j)+1) (A (B j)) (Y a0 S.n0 c0) (Y a1 S.n1 c1) ((j.alloc (.map #[] 0)).alloc (N #[Y a0 S.n0 c0,Y a1 S.n1 c1,.map (T (A (B j))),Y Z 0 0,Y Z 0 0] 196)) [] [] [] (λ_=>0) (λ_=>Y Z 0 0) (Y Z 0 0) (Y Z 0 0)):=by
   refine⟨AK,D0 _,nX _,?_,⟨rfl,.inl ⟨rfl,rfl⟩⟩,⟨rfl,.inl ⟨rfl,rfl⟩⟩,?_,λ_ hx=>absurd hx nj,List.Pairwise.nil⟩;{have h2:=gM (j.alloc (.map #[] 0)) (N #[Y a0 S.n0 c0,Y a1 S.n1 c1,.map (T (A (B j))),Y Z 0 0,Y Z 0 0] 196);rw[zM] at h2;exact h2};{refine((Do j).ab (((cM (A (B j)+1) _).alloc (by simp) _).block (A (B j)) (by omega))).congr λs=>?_;simp[dB]}
  have Ha:Hid (eB S [] [] 1):=by have h1:=uU S;have h2:=ZJ.av;unfold eB;show _<=_;simp;omega
  go_wp2_with fail;clear q0 q1;generalize World.alloc (World.alloc j _) _=W3 at AK Fd ⊢;refine(DD CX 60 [] [] _ _ _ _ W3 nm rfl Fd (fL S []) Ha ro).mono ?_;intro e p t;rw[<-HR.out] at t;rcases R with ⟨m,x⟩|c|d
  ·obtain⟨G',V',mk',md',rfl,hM,hE,ZR⟩:=t;obtain⟨Hj,-,hx,G8⟩:=cX ZJ 60 [] [] nm m x (fL S []) ro HR.symm;obtain⟨act,DQ,D⟩:=(hM.W x hx).ab;obtain⟨aa,na,ca,rfl⟩:∃a n c,act=Y a n c:=by
    unfold nA at D;split at D;{obtain⟨_,a,c,e,_⟩:=D;exact⟨a,_,c,e⟩};{exact⟨_,_,_,D⟩}
   obtain⟨ZK,ZP,rfl⟩:=bH hM.ag;obtain⟨rc,rt,ld,th⟩:∃rc rt,(if x.L=2 then Value.agg #[J I 4,U x.e,Y Z 0 0] else ZG #[J I x.M,U x.H,Y Z 0 0])=ZG #[J I rc,U rt,Y Z 0 0]/\dk x=⟨rc,rt,[]⟩:=by
    unfold dk;split;{exact⟨_,_,rfl,rfl⟩};{exact⟨_,_,rfl,rfl⟩}
   have Hi:=ae ld;have Hh:=ae th;have M4:=ae hM;have o:=ae hM.ak;have GS:=(hM.W x hx).ge;have fd:=ae DQ;obtain⟨l,Fm⟩:∃l,l=G' x.e:=⟨_,rfl⟩
   rw[<-Fm] at fd GS ⊢;have SQ:Hid (∀V:E,V.heap[A (B j)+1]?=p.heap[A (B j)+1]?->V.heap[l]?=p.heap[l]?->z V (Q (A (B j)+1) 4 Z)=T (Y ZK m.length ZP)/\z V (Q l 0 Z)=T (U x.e)/\z V (Q l 1 Z)=T (J I x.L)/\z V (Q l 2 Z)=T (J I x.M)/\z V (Q l 3 Z)=T (U x.H)/\z V (Q l 4 Z)=T (Y aa na ca)/\z V (Q l 5 Z)=T (Y Z 0 0)):=λV h1 h2=>by obtain⟨-,-,-,-,-,e4,-⟩:=M4.l.D;obtain⟨-,e0,e1,e2,e3,e5,e6,-,-,-⟩:=fd.D;exact⟨(cq (a:=(Q (A (B j)+1) 4 Z)) h1).trans e4,(cq (a:=(Q l 0 Z)) h2).trans e0,(cq (a:=(Q l 1 Z)) h2).trans e1,(cq (a:=(Q l 2 Z)) h2).trans e2,(cq (a:=(Q l 3 Z)) h2).trans e3,(cq (a:=(Q l 4 Z)) h2).trans e5,(cq (a:=(Q l 5 Z)) h2).trans e6⟩
   have H:=ah hM.l;have G:=ah fd.out;clear hM hE ZR Hj hx G8 DQ D ld th Fm;go_wp2_with fail;refine wp_region_noPanic ?_;refine wp_region_held_drew (S:=λV=>z V (Q (A (B j)+1) 4 Z)=T (Y ZK m.length ZP)/\z V (Q l 0 Z)=T (U x.e)/\z V (Q l 1 Z)=T (J I x.L)/\z V (Q l 2 Z)=T (J I x.M)/\z V (Q l 3 Z)=T (U x.H)/\z V (Q l 4 Z)=T (Y aa na ca)/\z V (Q l 5 Z)=T (Y Z 0 0)) (by as_aux_lemma=>kernel_rfl) (SQ _ rfl rfl) λhS=>?_;have HS:=ae hS;clear hS;iterate 6
    first|refine ba 0 (v:=?_) rfl rfl (by as_aux_lemma=>kernel_rfl) (λ_ _ _ h=>h) rfl ?_ HS ?_|refine ba 2 (v:=?_) rfl rfl (by as_aux_lemma=>kernel_rfl) (λ_ _ _ h=>h) rfl ?_ HS ?_
    rotate_left
    ·(rintro wz ⟨s0,s1,s2,s3,s4,s5,s6⟩;go_simp)
     (try with_reducible rfl)
    (try simp only[Act.put,nzL])
   refine aN (i:=6) rfl (by as_aux_lemma=>kernel_rfl) λK ZR=>?_;go_simp;go_at_call 127;refine(yT x.e x.H x.L x.M aa na ca _).mono ?_;rintro e O ⟨ZQ,r⟩;rw[Hi.out] at ZQ;subst ZQ;have ZS:Hid (Below (A (B p)) p O):=⟨r.os,r.tape,r.output,r.size,r.block⟩
   clear r HS;have HS:=ae (SQ O (ZS.block _ H) (ZS.block _ G));refine ZR _ _ HS ?_;clear ZR K
   (try simp only[Act.put,nzL])
   have ZT:=ae (q.aa (o.trans (ZS.mono o.size)));obtain⟨hpl,M,Hk⟩:=ZT.row;obtain⟨rl,r0,r1,L,C⟩:=dC ZT.2.2.2;have Hn:=C 0;have He:=C 1;have Ho:=C 2;clear C;have Hl:Hid (ku j S O m (Y ZK m.length ZP)):=⟨G',V',own_below M4.ag ZS ly,λy hy=>(M4.W y hy).kx (KX.q (X:=XN) ZS ly M4.lt) (λh=>h) (λ_ _ h=>h),M4.dist⟩
   have qr:A (B w)+1≠A (B j)+1:=by omega
   have la:A (B w)+1≠l:=by omega
   refine aN (i:=7) rfl (by as_aux_lemma=>kernel_rfl) λK ZR=>?_;go_simp;have Hg:=ae (SQ (O.setCell (Q (A (B w)+1) 0 Z) (Y ZK m.length ZP)) ((qh _ _ _ _ qr.symm).trans (ZS.block _ H)) ((qh _ _ _ _ la.symm).trans (ZS.block _ G)));refine ZR _ _ Hg ?_;clear ZR K HS
   (try simp only[Act.put])
   have ZL:A (B w)+1+1≠A (B j)+1:=by omega
   have ZM:A (B w)+1+1≠l:=by omega
   have Hb:=ae (SQ ((((O.setCell (Q (A (B w)+1) 0 Z) (Y ZK m.length ZP)).setCell (Q (A (B w)+1+1) 0 Z) (J I rc)).setCell (Q (A (B w)+1+1) 1 Z) (U rt)).setCell (Q (A (B w)+1+1) 2 Z) (Y Z 0 0)) ((qh _ _ _ _ ZL.symm).trans ((qh _ _ _ _ ZL.symm).trans ((qh _ _ _ _ ZL.symm).trans ((qh _ _ _ _ qr.symm).trans (ZS.block _ H))))) ((qh _ _ _ _ ZM.symm).trans ((qh _ _ _ _ ZM.symm).trans ((qh _ _ _ _ ZM.symm).trans ((qh _ _ _ _ la.symm).trans (ZS.block _ G))))));have Hc:=ae (lQ (lQ (lQ (lQ Hl (show (A (B w))+1<A (B j) by omega) 0 (Y ZK m.length ZP)) (show (A (B w))+1+1<A (B j) by omega) 0 (J I rc)) (show (A (B w))+1+1<A (B j) by omega) 1 (U rt)) (show (A (B w))+1+1<A (B j) by omega) 2 (Y Z 0 0));refine aN (i:=8) rfl (by as_aux_lemma=>kernel_rfl) λK ZR=>?_;go_simp;refine ZR _ _ Hb ?_;clear ZR K
   (try simp only[Act.put])
   refine wpAnyH_done (by as_aux_lemma=>kernel_rfl) ?_ _;refine NoPanic.normal ?_;go_wp2_with fail;refine leaves_cons (f:=124) (args:=#[.pointer (T (Q (A (B w)+1) 0 Z)),.pointer (T (Q (A (B w)+1+1) 0 Z))]) (by simp) (by simp[go_sem]) ?_;refine(yS (Q (A (B w)+1) 0 Z) (Q (A (B w)+1+1) 0 Z) _).mono ?_;rintro e u' w6 ⟨rfl,rfl,rfl⟩;show Leaves _ _ _ _ [] .returning _;refine⟨.tuple #[Y ZK m.length ZP,ZG #[J I rc,U rt,Y Z 0 0]],by simp[results,US,go_sem,M,r0,r1,L],?_⟩;refine⟨j,_,_,ZO,rfl,Hc,by rw[Hh.out];exact jJ _ _ _ _,ZT.fin _ _ _ _,λ_ b off n f hn0 n8=>?_⟩;have Hp:b≠A (B w)+1:=λe=>DZ (by rw[e];exact n7) hn0 n8;have ph:b≠A (B w)+1+1:=λe=>Ea (by rw[e];exact bt) hn0 n8;exact((((((n8.aa o ly).aa ZS ly).setOther _ Hp.symm _).setOther _ ph.symm _).setOther _ ph.symm _).setOther _ ph.symm _)
  ·obtain⟨u,rfl,h1,h2⟩:=t;obtain⟨g,cu,rfl⟩:=bH h1;have o:=ae (AK.trans h2);have O4:=ae h1;go_wp2_with fail;have n6:p.heap[A (B w)+1]?=_:=(o.block _ (by omega)).trans n7;have n9:p.heap[A (B w)+1+1]?=_:=(o.block _ (by omega)).trans bt;refine leaves_cons (f:=124) (args:=#[.pointer (T (Q (A (B w)+1) 0 Z)),.pointer (T (Q (A (B w)+1+1) 0 Z))]) (by simp) (by simp[go_sem]) ?_;refine(nY (A (B w)+1) (A (B w)+1+1) 236 _ [] 6 ⟨#[]⟩ g c.length cu p (pZ g c.length cu p) _ _ _ _ _ _ n6 n9 (by omega)).mono ?_;rintro e u' w6 ⟨rfl,rfl,O,W,rfl⟩;have OB:Hid (∀k,k<A (B j)->(Value.slice g c.length cu).ownBlock≠T k):=λk hk e=>by have:=(af O4 k e).1;omega
   have ZT:=ae (q.aa (o.trans (W.mono o.size)));obtain⟨hpl,M,-⟩:=ZT.row;obtain⟨rl,r0,r1,L,-⟩:=dC ZT.2.2.2;show Leaves _ _ _ _ [] .returning _;refine⟨.tuple #[Y Z 0 0,ZG #[J I 6,U ⟨#[]⟩,(Y g c.length cu)]],by simp[results,US,go_sem,M,r0,r1,L],?_⟩;exact⟨j,_,_,ZO,rfl,o6 _ _ _,⟨g,cu,rfl,aF (aA (aA (aA (aA (own_below O4 W ly) (OB _ (by omega)) _ _) (OB _ (by omega)) _ _) (OB _ (by omega)) _ _) (OB _ (by omega)) _ _) (by omega)⟩,ZT.fin _ _ _ _,λh=>absurd rfl h⟩
  {obtain⟨rfl,h2⟩:=t;have o:=ae (AK.trans h2);go_wp2_with fail;have n6:p.heap[A (B w)+1]?=_:=(o.block _ (by omega)).trans n7;have n9:p.heap[A (B w)+1+1]?=_:=(o.block _ (by omega)).trans bt;refine leaves_cons (f:=124) (args:=#[.pointer (T (Q (A (B w)+1) 0 Z)),.pointer (T (Q (A (B w)+1+1) 0 Z))]) (by simp) (by simp[go_sem]) ?_;refine(nY (A (B w)+1) (A (B w)+1+1) 238 _ [] 7 d Z 0 0 p (sP d p) _ _ _ _ _ _ n6 n9 (by omega)).mono ?_;rintro e u' w6 ⟨rfl,rfl,O,W,rfl⟩;have ZT:=ae (q.aa (o.trans (W.mono o.size)));obtain⟨hpl,M,-⟩:=ZT.row;obtain⟨rl,r0,r1,L,-⟩:=dC ZT.2.2.2;show Leaves _ _ _ _ [] .returning _;refine⟨.tuple #[Y Z 0 0,ZG #[J I 7,U d,(Y Z 0 0)]],by simp[results,US,go_sem,M,r0,r1,L],?_⟩;exact⟨j,_,_,ZO,rfl,o6 _ _ _,jJ _ _ _ _,ZT.fin _ _ _ _,λh=>absurd rfl h⟩}
 all_goals
  have hq:P=([],⟨9,⟨#[]⟩,[]⟩):=by rw[HP.out];exact eT λh=>by first|exact hc (aq.trans h.1)|exact absurd (ZI.trans h.2) (by simp)
  clear HP;subst hq
  (try have hc2:(ck == 0)=ZA:=by simpa using hc)
  obtain⟨hpl,M,Hk⟩:=q.row;obtain⟨rl,r0,r1,L,C⟩:=dC q.2.2.2;have Hn:=C 0;have He:=C 1;have Ho:=C 2;clear C;go_wp2_with fail;refine⟨.tuple #[Y Z 0 0,ZG #[J I 9,U ⟨#[]⟩,Y Z 0 0]],by simp[results,US,go_sem,M,r0,r1,L],?_⟩;exact⟨w,_,_,cM _ _,rfl,o6 _ _ _,jJ _ _ _ _,q.fin _ _ _ _,λh=>absurd rfl h⟩
end
