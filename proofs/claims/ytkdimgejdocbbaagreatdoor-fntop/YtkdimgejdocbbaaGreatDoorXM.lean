import Derived.Test.YtkdimgejdocbbaaGreatDoorXF
import Derived.Test.YtkdimgejdocbbaaGreatDoorXJ
set_option maxRecDepth 100000
set_option maxHeartbeats 4000000
open Go.Addr renaming mk->J
open Go.Value renaming slice->Z,string->U,int->Q,agg->QE
open Option renaming none->Y,some->N
open Go.Obj renaming cells->T
open Go.IntKind renaming i64->I
open Go renaming World->E,Value->QB
open Go.Ending renaming returned->QD
namespace Go.Proofs.YtkdimgejdocbbaaGreatDoor.Vp
open RowKit Ca
def xG (W:E)(B:Nat)(S:Spc)(x:Ent)(act:QB):Prop:=∃ a d,act=Z a (bW S x) d/\((bW S x=0/\a=Y/\d=0)∨∃ b off,a=N (J b off Y)/\b<B/\RowIns W b off (bW S x) (S.f1 x.tg).act)
structure Plc (B:Nat)(S:Spc)(W:E)(made:List Ent)(G:ByteArray->Nat)(V:ByteArray->QB)(k:Nat)(mdv:QB):Prop where
 row:W.ownsRow B 124 1 mdv made.length (jf G made)
 ent:∀ (i:Nat) (x:Ent),made[i]?=N x->B<=G x.name/\(∃ act,EntBlk W (G x.name) x.name x.kind x.code x.text act (V x.name) (if i<k then (i:Int) else 0)/\xG W B S x act)/\W.ownsRow B 212 5 (V x.name) x.looks.length (eX G x.looks)
 dist:made.Pairwise fun x y=>G x.name≠G y.name
theorem zk {o W:E}{S:Spc}{d:List Ent}{m:QB}(h:jX o S W d m)(u:d≠[]->SpcOk S)(B:d≠[]->∀ b off n f,0<n->RowIns o b off n f->RowIns W b off n f):∃ G V,Plc o.heap.size S W d G V 0 m:=by
 obtain⟨G,V,h1,h2,z⟩:=h;refine⟨G,V,h1,fun i x A=>?_,z⟩;have p:=EQ A;have k:d≠[]:=fun e=>by rw[e] at p;exact absurd p nj
 obtain⟨⟨act,hb,j⟩,t,y⟩:=h2 x p;refine⟨t,⟨act,by simpa using hb,?_⟩,y⟩;unfold mF at j;split at j
 ·rename_i g
  obtain⟨s,a,q,rfl,r⟩:=j;have e:bW S x=(S.f1 x.tg).actN:=by unfold bW;rw[eT g]
  obtain⟨_,hv,_⟩:=bY ((u k).act x.tg s);obtain⟨b,off,rfl,l⟩:=r.resolve_left (by omega);exact⟨_,q,by rw[e],.inr ⟨b,off,rfl,l.1,by rw[e];exact B k b off _ _ (by omega) l⟩⟩
 ·rename_i g
  have e:bW S x=0:=by unfold bW;rw[a8 g]
  exact⟨Y,0,by rw[e];exact j,.inl ⟨e,rfl,rfl⟩⟩
theorem Plc.next {B:Nat}{S:Spc}{W:E}{d:List Ent}{G:ByteArray->Nat}{V:ByteArray->QB}{k:Nat}{m:QB}{y:Ent}(h:Plc B S W d G V k m)(r:d[k]?=N y):Plc B S (W.setCell (J (G y.name) 7 Y) (Q I (k:Int))) d G V (k+1) m:=by
 obtain⟨hyB,⟨acty,QQ,hay⟩,hry⟩:=h.ent k y r;have g:∀ {size n:Nat} {e:TypeId} {v:QB} {t:List QB},W.ownsRow B e size v n t->e≠127->(W.setCell (J (G y.name) 7 Y) (Q I (k:Int))).ownsRow B e size v n t:=fun A f=>az A (fun e=>lf A QQ e f) _ _;have p:∀ {x:Ent} {act:QB},xG W B S x act->xG (W.setCell (J (G y.name) 7 Y) (Q I (k:Int))) B S x act:=fun⟨a,C,e,s⟩=>⟨a,C,e,s.imp id fun⟨b,off,QO,hb,o⟩=>⟨b,off,QO,hb,o.setOther _ (by show G y.name≠b;omega) _⟩⟩
 refine⟨g h.row (by decide),fun i x l=>?_,h.dist⟩;obtain⟨QP,⟨act,hb,s⟩,o⟩:=h.ent i x l;refine⟨QP,⟨act,?_,p s⟩,g o (by decide)⟩;by_cases e:i=k
 ·subst e
  rw[r] at l;cases l
  rw[eT (lj _)];rw[a8 (Nat.lt_irrefl _)] at hb;exact aw hb _
 ·have f:G x.name≠G y.name:=by
   obtain⟨hi,z⟩:=o3.1 l;obtain⟨H,u⟩:=o3.1 r;rcases Nat.lt_or_gt_of_ne e with j | j
   ·have:=D0.1 h.dist i k hi H j
    rw[z,u] at this;exact this
   ·have:=D0.1 h.dist k i H hi j
    rw[z,u] at this;exact this.symm
  rw[show(if i<k+1 then (i:Int) else 0)=if i<k then (i:Int) else 0 by by_cases q:i<k<;>simp[q,show i<k+1 ↔ i<k by omega]];exact(qh _ _ _ _ f).trans hb
theorem Plc.keep {B:Nat}{S:Spc}{W W':E}{g:List Ent}{G:ByteArray->Nat}{V:ByteArray->QB}{k:Nat}{m:QB}(h:Plc B S W g G V k m)(hz:W.heap.size<=W'.heap.size)(l:∀ j,j<W.heap.size->W'.heap[j]?=W.heap[j]?):Plc B S W' g G V k m:=by refine⟨bI h.row fun j d=>l j (h.row.lt j d).2,fun i x t=>?_,h.dist⟩;obtain⟨o,⟨act,hb,a,p,e,r⟩,n⟩:=h.ent i x t;refine⟨o,⟨act,(l _ (ai hb)).trans hb,a,p,e,r.imp id fun⟨b,off,q,hb,f⟩=>⟨b,off,q,hb,ll f.1 hz,fun j d=>?_⟩⟩,bI n fun j d=>l j (n.lt j d).2⟩;have e:=l b f.1;obtain⟨s,h1,h2⟩:=f.2 j d;exact⟨(cq (a:=(J b _ Y)) e).trans s,(cq (a:=(J b _ Y)) e).trans h1,(cq (a:=(J b _ Y)) e).trans h2⟩
theorem Only.grown {b:Nat}{W w i:E}{row:Option Nat}(h:Only b W w)(d:w.grownBy i row)(n:∀ j,row=N j->W.heap.size<=j):Only b W i:=by
 have g:∀ k,k<W.heap.size->i.heap[k]?=w.heap[k]?:=fun k f=>d.block k (ll f h.size) fun e=>by have:=n k e.symm;omega
 exact⟨d.os.trans h.os,d.tape.trans h.tape,d.output.trans h.output,j5 h.size d.size,fun k f l=>(g k f).trans (h.block k f l),fun m t fz hb=>let ⟨cs',h'⟩:=h.ty m t fz hb;⟨cs',(g b (aC hb)).trans h'⟩⟩
theorem Ew (w:E)(l g b d i f:QB)(t:TypeId):∀ j u,[l,g,b,d,i,f][j]?=N u->(w.alloc (T #[l,g,b,d,i,f] t)).cell? (((J w.heap.size 0 Y):Addr).add j)=N u:=by
 intro j u h;rw[addr_add];match j,h with
 | 0,h=>simp at h;subst h;simp
 | 1,h=>simp at h;subst h;simp
 | 2,h=>simp at h;subst h;simp
 | 3,h=>simp at h;subst h;simp
 | 4,h=>simp at h;subst h;simp
 | 5,h=>simp at h;subst h;simp
 | k+6,h=>simp at h
theorem Plc.settled {B:Nat}{S:Spc}{W:E}{d:List Ent}{G:ByteArray->Nat}{V:ByteArray->QB}{u:QB}(h:Plc B S W d G V d.length u)(k:PG S [] d)(H:∀ i,i<S.n1->aS (S.f1 i)){i:Nat}{x:Ent}(j:d[i]?=N x):Calls Tryz.prog 93 #[.pointer (N (J (G x.name) 0 Y))] W fun r m=>∃ z t,r=QD (QE #[U x.name,Q I x.kind,Q I x.code,U x.text,z,t])/\DSub m W.heap.size (bi S d x,z,t)/\Below W.heap.size W m:=by obtain⟨_,⟨act,hb,a,p,rfl,QP⟩,QQ⟩:=h.ent i x j;have q:=EQ j;have A:=yz k H (bi S d x) (LF q);refine uu S d G x W (G x.name) B a p (V x.name) _ hb (QP.imp id fun⟨b,off,e,_,n⟩=>⟨b,off,e,n⟩) A.1 (k.ents x q).looks QQ fun l C QO=>?_;obtain⟨y,o,QN,hlt⟩:=k.asked j C QO;obtain⟨_,⟨acty,s,_⟩,_⟩:=h.ent _ y o;obtain⟨f,-,-,-,-,-,-,-,g,-⟩:=s.facts;rw[eT (o3.1 o).1] at g;rw[QN] at g f;exact⟨g,f⟩
section
variable {S:Spc}{a0 a1:Option Addr}{c0 c1:Nat}
theorem mw (w:E)(nm:ByteArray)(ro:SlSource w a0 S.n0 S.f0)(n8:SlTarget w a1 S.n1 S.f1)(hn0:S.n0<=1048576)(hn1:S.n1<=1048576)(QO:∀ i,i<S.n1->aS (S.f1 i))(hT:Tab w)(bt:Tab2 w)(hP:Pow w):Calls Tryz.prog 22 #[QE #[Z a0 S.n0 c0,Z a1 S.n1 c1],U nm] w fun e w'=>∃ a c R rv,e=QD (.tuple #[QE #[Z a R.length c],rv])/\DRow w' w.heap.size (Z a R.length c) R/\R.map (·.1)=bk S (bj S nm).1/\iJ w w' (bj S nm).2 rv/\Below w.heap.size w w':=by
 have QN:=ae ((((Qs w).alloc lr (T #[Z a0 S.n0 c0,Z a1 S.n1 c1] 26)).alloc (by simp) (T #[Z Y 0 0] 50)).alloc (by simp<;>omega) (T #[Q I 0,U ⟨#[]⟩,Z Y 0 0] 41));have HB:=ae (zi (c0:=c0) (c1:=c1) (((w.alloc (T #[Z a0 S.n0 c0,Z a1 S.n1 c1] 26)).alloc (T #[Z Y 0 0] 50)).alloc (T #[Q I 0,U ⟨#[]⟩,Z Y 0 0] 41)) nm (ro.below QN lr) (n8.below QN lr) hn0 hn1 QO (hT.below QN hT.1) (bt.below QN bt.1) (hP.below QN lr));have kA:Hid ((((w.alloc (T #[Z a0 S.n0 c0,Z a1 S.n1 c1] 26)).alloc (T #[Z Y 0 0] 50)).alloc (T #[Q I 0,U ⟨#[]⟩,Z Y 0 0] 41)).heap[w.heap.size+1]?=N (T #[Z Y 0 0] 50 (0,0))):=by have h2:=eL (w.alloc (T #[Z a0 S.n0 c0,Z a1 S.n1 c1] 26)) (T #[Z Y 0 0] 50);rw[show(w.alloc (T #[Z a0 S.n0 c0,Z a1 S.n1 c1] 26)).heap.size=w.heap.size+1 by simp] at h2;exact(((eI (w.heap.size+2) _).alloc (by simp) _).block (w.heap.size+1) (by omega)).trans h2
 have kR:Hid ((((w.alloc (T #[Z a0 S.n0 c0,Z a1 S.n1 c1] 26)).alloc (T #[Z Y 0 0] 50)).alloc (T #[Q I 0,U ⟨#[]⟩,Z Y 0 0] 41)).heap[w.heap.size+1+1]?=N (T #[Q I 0,U ⟨#[]⟩,Z Y 0 0] 41 (0,0))):=by have h2:=eL ((w.alloc (T #[Z a0 S.n0 c0,Z a1 S.n1 c1] 26)).alloc (T #[Z Y 0 0] 50)) (T #[Q I 0,U ⟨#[]⟩,Z Y 0 0] 41);rw[show((w.alloc (T #[Z a0 S.n0 c0,Z a1 S.n1 c1] 26)).alloc (T #[Z Y 0 0] 50)).heap.size=w.heap.size+1+1 by simp] at h2;exact h2
 have Fq:(((w.alloc (T #[Z a0 S.n0 c0,Z a1 S.n1 c1] 26)).alloc (T #[Z Y 0 0] 50)).alloc (T #[Q I 0,U ⟨#[]⟩,Z Y 0 0] 41)).heap.size=w.heap.size+3:=by simp
 obtain⟨QJ,QL,A⟩:=oJ S nm;have At:=ae QO;obtain⟨bb,la⟩:∃ bb,bb=bj S nm:=⟨_,rfl⟩
 rw[<-la] at HB QJ QL A ⊢;clear ro n8 QO hT bt hP la;obtain⟨b,r⟩:=bb;simp only at QJ QL A ⊢;have Fu:=ae QJ;have sm:=ae A;clear QJ A;obtain⟨Fl,hi,Fi,Fh,Fp⟩:=IS zC;go_enter Tryz.func22,Tryz.ntmps22;go_wp2_with fail;generalize ((w.alloc (T #[Z a0 S.n0 c0,Z a1 S.n1 c1] 26)).alloc (T #[Z Y 0 0] 50)).alloc (T #[Q I 0,U ⟨#[]⟩,Z Y 0 0] 41)=u at QN HB kA kR Fq ⊢;refine HB.mono ?_;rintro e M ⟨wb,mdv,rv,n6,rfl,W,⟨a,c,rfl,n⟩,QM,P⟩;obtain⟨G,V,H⟩:=zk W sm P;obtain⟨am,cm,rfl⟩:=bX H.row;have ur:u.heap.size<=wb.heap.size:=n6.size;have A1:=ae ((Qs M).alloc lr (T #[Q I r.code,U r.text,Z a r.chain.length c] 41));have O1:=ae (own_below n A1 lr);have P1:=ae (H.keep A1.size fun j l=>A1.block j l);have B1:=ae (QM.trans (A1.mono QM.size));have k1:Hid ((M.alloc (T #[Q I r.code,U r.text,Z a r.chain.length c] 41)).heap[M.heap.size]?=N (T #[Q I r.code,U r.text,Z a r.chain.length c] 41 (0,0))):=eL _ _;have Fm:u.heap.size<=M.heap.size:=QM.size;obtain⟨B,fd⟩:∃ B,B=wb.heap.size:=⟨_,rfl⟩
 rw[<-fd] at P1 ur;clear n6 W n QM P H fd HB sm;obtain⟨L,hL⟩:∃ L,L=b.length:=⟨_,rfl⟩
 have HL:=ae hL;rw[<-hL] at QL P1 ⊢;clear hL;go_wp2;generalize M.alloc (T #[Q I r.code,U r.text,Z a r.chain.length c] 41)=W1 at A1 O1 P1 B1 k1 ⊢;generalize M.heap.size=rb at k1 Fm ⊢;clear A1;go_loopw [21] (fun i wr=>∃ k:Nat,k<=L/\i=Q I k/\Hid (Plc B S wr b G V k (Z am L cm))/\Hid (wr.heap[rb]?=N (T #[Q I r.code,U r.text,Z a r.chain.length c] 41 (0,0)))/\Hid (wr.ownsRow u.heap.size 9 1 (Z a r.chain.length c) r.chain.length (bq r.chain))/\Hid (Below u.heap.size u wr)) (fun i _=>L - (intOf i).toNat);case atStart=>exact⟨0,by omega,rfl,P1,k1,O1,B1⟩
 case round =>
  clear P1 k1 O1 B1;obtain⟨k,hk,rfl,P2,k2,O2,B2⟩:=hrel;by_cases Fo:k<L
  ·obtain⟨y,hy⟩:∃ y,b[k]?=N y:=⟨_,gq (by rw[<-HL.out];exact Fo)⟩
   obtain⟨hyB,⟨act,O,-⟩,-⟩:=P2.ent k y hy;have d:=P2.row;rw[<-HL.out] at d;obtain⟨gm,Fr,e⟩:=iL d (by omega);simp only[CL,LR] at e;obtain⟨rfl,rfl⟩:=e;have cp:wr.cell? (J gm k Y)=N (.pointer (N (J (G y.name) 0 Y))):=(bv d (by rw[jf,IE,hy];rfl)).1;have DQ:=(dR d).2;obtain⟨hyl,-,-,-,-,-,-,-,y7,yf⟩:=O.facts;have yf7:=yf 7;have P3:=ae (P2.next hy);have k3:Hid ((wr.setCell (J (G y.name) 7 Y) (Q I (k:Int))).heap[rb]?=N (T #[Q I r.code,U r.text,Z a r.chain.length c] 41 (0,0))):=(qh _ _ _ _ (fun e=>by have:=ah (e ▸ k2.out) O;exact absurd this (by decide))).trans k2;have O3:=ae (az O2 (fun e=>lf O2 O e (by decide)) 7 (Q I (k:Int)));have B3:=ae (B2.setCell (p:=(J (G y.name) 7 Y)) (by show u.heap.size<=G y.name;omega) (Q I (k:Int)));clear hy yf O d;go_wp2;exact⟨⟨k+1,by omega,by go_num,P3,k3,O3,B3⟩,by simp[intOf];omega⟩
  ·have e:k=L:=by omega
   subst e;have A3:=ae ((Qs wr).alloc lr (T #[Z Y 0 0] 50));have k3:Hid ((wr.alloc (T #[Z Y 0 0] 50)).heap[wr.heap.size]?=N (T #[Z Y 0 0] 50 (0,0))):=eL _ _;have Fk:(wr.alloc (T #[Z Y 0 0] 50)).heap.size=wr.heap.size+1:=by simp
   go_wp2;generalize wr.alloc (T #[Z Y 0 0] 50)=o at A3 k3 Fk ⊢;obtain⟨f,DA⟩:∃ f,f=wr:=⟨_,rfl⟩
   subst DA;go_loopw [33] (fun i wq=>∃ (q:Nat) (g:Option Addr) (c5:Nat) (R:List DR),q<=k/\i=Q I q/\R.length=q/\Hid (R.map (·.1)=(b.take q).map (bi S b))/\Hid (DRow wq o.heap.size (Z g q c5) R)/\Hid (wq.heap[f.heap.size]?=N (T #[Z g q c5] 50 (0,0)))/\Hid (Only f.heap.size o wq)) (fun i _=>k - (intOf i).toNat);case atStart=>exact⟨0,Y,0,[],by omega,rfl,rfl,rfl,zL _ _,k3,Only.refl _ _⟩
   case round =>
    obtain⟨q,g,c5,R,hq,rfl,C,qr,D4,k4,Y4⟩:=hrel;have Fs:o.heap.size<=wr.heap.size:=Y4.size;have DE:f.heap.size<o.heap.size:=by omega
    by_cases Ft:q<k
    ·obtain⟨x,hx⟩:∃ x,b[q]?=N x:=⟨_,gq (by rw[<-HL.out];exact Ft)⟩
     have P5:Hid (Plc B S wr b G V b.length (Z am k cm)):=by have h:=P2.keep (W':=wr) (by omega) fun j l=>(Y4.block j (by omega) (by omega)).trans (A3.block j l);rw[<-HL.out];exact h
     have d:=P5.row;rw[<-HL.out] at d;obtain⟨gm,Fr,e⟩:=iL d (by omega);simp only[CL,LR] at e;obtain⟨rfl,rfl⟩:=e;have cp:wr.cell? (J gm q Y)=N (.pointer (N (J (G x.name) 0 Y))):=(bv d (by rw[jf,IE,hx];rfl)).1;have DQ:=(dR d).2;have Fj:Hid (Calls Tryz.prog 93 #[.pointer (N (J (G x.name) 0 Y))] wr.drew fun r w'=>∃ va vl,r=QD (QE #[U x.name,Q I x.kind,Q I x.code,U x.text,va,vl])/\DSub w' wr.drew.heap.size (bi S b x,va,vl)/\Below wr.drew.heap.size wr.drew w'):=(P5.keep (W':=wr.drew) lr fun j _=>rfl).settled Fu At hx;have HX:=ae hx;have SQ:Hid (∀ V:E,(∀ j,j<wr.heap.size->N j≠(Value.slice g q c5).ownBlock->V.heap[j]?=wr.heap[j]?)->V.heap[f.heap.size]?=N (T #[Z g q c5] 50 (0,0))/\V.cell? (J f.heap.size 0 Y)=N (Z g q c5)):=fun V hV=>by have h1:=(hV f.heap.size (ai k4) fun e=>by have h:=D4.own;rw[C] at h;have:=(h.lt _ e.symm).1;omega).trans k4;exact⟨h1,by simp[World.cell?,h1]⟩
     clear d hx;go_wp2_with fail;refine bm (fun V=>V.heap[f.heap.size]?=N (T #[Z g q c5] 50 (0,0))/\V.cell? (J f.heap.size 0 Y)=N (Z g q c5)) 7 (by as_aux_lemma=>kernel_rfl) ?_;have HS:=ae (SQ wr.drew (fun j l _=>rfl))
     iterate 3
      refine bw 0 (v:=?_) rfl rfl (by as_aux_lemma=>kernel_rfl) (fun _ _ _ h=>h) rfl ?_ HS ?_;rotate_left
      ·(intro wz Bk;obtain⟨s0,s1⟩:=Bk;go_simp)
       (try with_reducible rfl)
      (try simp only[Act.put,nzL])
     refine ar (i:=3) rfl (by as_aux_lemma=>kernel_rfl) (fun K m=>?_);go_simp;go_at_call 93;refine Fj.mono ?_;rintro e z ⟨va,vl,rfl,X,t⟩;have ex:z.ownsRow wr.heap.size 188 3 va (bW S x) (cB (S.f1 x.tg).act (bW S x)):=X.act;have aq:z.ownsRow wr.heap.size 64 4 vl x.looks.length (jC (lkF b x.looks) x.looks.length):=X.lnk;obtain⟨QP,n7⟩:∃ QP,QP=bW S x:=⟨_,rfl⟩
     obtain⟨QQ,n9⟩:∃ QQ,QQ=x.looks.length:=⟨_,rfl⟩
     rw[<-n7] at ex;rw[<-n9] at aq;obtain⟨ag,cg,rfl⟩:=bX ex;obtain⟨al,QH,rfl⟩:=bX aq;clear ex aq;have B5:Hid (Below wr.heap.size wr z):=⟨t.os,t.tape,t.output,t.size,t.block⟩
     have S5:Hid (DSub z wr.heap.size (bi S b x,Z ag QP cg,Z al QQ QH)):=X;clear X t n7 n9;refine m _ _ (fun _=>SQ _ (fun j l _=>B5.block j l)) ?_;clear m K HS
     (try simp only[Act.put,nzL])
     refine ar (i:=4) rfl (by as_aux_lemma=>kernel_rfl) (fun K m=>?_);go_simp;have AB:=ae ((Qs z).alloc lr (T #[U x.name,Q I x.kind,Q I x.code,U x.text,Z ag QP cg,Z al QQ QH] 58));have B6:=ae (B5.trans (AB.mono B5.size));have D6:=ae (D4.below B6 lr);have S6:=ae (S5.below AB lr);have OW:Hid (World.ownsRow (z.alloc (T #[U x.name,Q I x.kind,Q I x.code,U x.text,Z ag QP cg,Z al QQ QH] 58)) o.heap.size 58 6 (Z g q c5) q (R.flatMap ddV)):=by have h:=D6.own;rw[C] at h;exact h
     refine m _ _ (fun _=>SQ _ (fun j l _=>B6.block j l)) ?_;clear m K
     (try simp only[Act.put,nzL])
     refine ar (i:=5) rfl (by as_aux_lemma=>kernel_rfl) (fun K m=>?_);refine bA rfl (.tmp 38) (.tmp 41) 48 rfl o.heap.size 58 Fl (QE #[U ⟨#[]⟩,Q I 0,Q I 0,U ⟨#[]⟩,Z Y 0 0,Z Y 0 0]) 6 96 Tryz.underlying48 hi Fi Fh Fp rfl (by decide) (Z g q c5) q (R.flatMap ddV) (by simp[Act.eval]) OW.out (J z.heap.size 0 Y) 1 1 [U x.name,Q I x.kind,Q I x.code,U x.text,Z ag QP cg,Z al QQ QH] (by simp[Act.eval]) rfl (Ew z _ _ _ _ _ _ _) (by simp[Value.oneCell']) (by unfold maxLen;omega) (by omega) (by have:=B6.size;omega) ?_;intro v' w7 n s _;obtain⟨a7,QG,rfl⟩:=bX n;have ph:∀ j,(Value.slice g q c5).ownBlock=N j->o.heap.size<=j:=fun j e=>(OW.lt j e).1;have S7:=ae (SQ w7 (fun j l Fd=>(s.block j (ll l B6.size) Fd).trans (B6.block j l)));have D7:Hid (DRow w7 o.heap.size (Z a7 (q+1) QG) (R++[(bi S b x,Z ag QP cg,Z al QQ QH)])):=DRow.more D4 D6 Fs S6 (by rw[C];exact n) s;have Y7:=ae ((Y4.trans (Only.of_below B6)).grown s ph);clear n s ph;refine m _ _ (fun _=>S7) ?_;clear m K
     (try simp only[Act.put,nzL])
     refine ar (i:=6) rfl (by as_aux_lemma=>kernel_rfl) (fun K m=>?_);go_simp;refine m _ _ (fun _=>S7) ?_;clear m K
     (try simp only[Act.put,nzL])
     obtain⟨s7,t7⟩:=S7.out;have f7:w7.frozen? (J f.heap.size 0 Y)=false:=by simp[World.frozen?,s7]
     have l7:=ai s7;have D8:=ae (D7.set (p:=(J f.heap.size 0 Y)) (e:=50) (.inl DE) (Z a7 (q+1) QG));have k8:Hid ((w7.setCell (J f.heap.size 0 Y) (Z a7 (q+1) QG)).heap[f.heap.size]?=N (T #[Z a7 (q+1) QG] 50 (0,0))):=aw s7 _;have Y8:=ae (bZ Y7 0 (Z a7 (q+1) QG));clear s7;refine ar (i:=7) rfl (by as_aux_lemma=>kernel_rfl) (fun K m=>?_);go_simp;refine m _ _ (fun h=>absurd rfl h) ?_;clear m K
     (try simp only[Act.put,nzL])
     refine bJ (by as_aux_lemma=>kernel_rfl) ?_ _;go_wp2;refine⟨⟨q+1,a7,QG,_,by omega,by go_num,by rw[cM,C];rfl,?_,D8,k8,Y8⟩,by simp[intOf];omega⟩;show(R++[((bi S b x,Z ag QP cg,Z al QQ QH):DR)]).map (·.1)=_;rw[FB,qr.out,List.take_add_one,HX.out];simp
    ·have e:q=k:=by omega
     subst e;have hab2:f.heap.size≠w.heap.size+1:=by have:=B2.size;omega
     have hab3:f.heap.size≠w.heap.size+1+1:=by have:=B2.size;omega
     have hwA:=B2.size;have BW:Hid (Below u.heap.size u wr):=B2.trans ((A3.mono (by omega)).trans (Y4.below (by omega) (by omega)));have QK:=(BW.block (w.heap.size+1) (by omega)).trans kA;have mv:=(BW.block (w.heap.size+1+1) (by omega)).trans kR;have th:rb<f.heap.size:=ai k2.out;have ld:wr.heap[rb]?=_:=(Y4.block rb (by omega) (by omega)).trans ((A3.block rb th).trans k2);have O4:Hid (wr.ownsRow u.heap.size 9 1 (Z a r.chain.length c) r.chain.length (bq r.chain)):=bI O2 fun j l=>(Y4.block j (by have:=(O2.lt j l).2;omega) (by have:=(O2.lt j l).2;omega)).trans (A3.block j (O2.lt j l).2);obtain⟨rl,r0,r1,r2,rf⟩:=cV mv;have rf0:=rf 0;have rf1:=rf 1;have rf2:=rf 2;obtain⟨bl,b0,b1,b2,-⟩:=cV ld;have p0:wr.cell? (J (w.heap.size+1) 0 Y)=N (Z Y 0 0):=by simp[World.cell?,QK]
     have pf0:wr.frozen? (J (w.heap.size+1) 0 Y)=false:=by simp[World.frozen?,QK]
     have pl:=ai QK;have q0:wr.cell? (J f.heap.size 0 Y)=N (Z g q c5):=by simp[World.cell?,k4.out]
     have ql:=ai k4.out;clear rf QK mv ld;have OF:=ae (aG (aG (aG (aG O4 (R:=w.heap.size+1) (j:=0) (by omega) (Z g q c5)) (R:=w.heap.size+1+1) (j:=0) (by omega) (Q I r.code)) (R:=w.heap.size+1+1) (j:=1) (by omega) (U r.text)) (R:=w.heap.size+1+1) (j:=2) (by omega) (Z a r.chain.length c));have DF:=ae ((((D4.set (p:=(J (w.heap.size+1) 0 Y)) (e:=50) (.inl (by show w.heap.size+1<o.heap.size;omega)) (Z g q c5)).set (p:=(J (w.heap.size+1+1) 0 Y)) (e:=50) (.inl (by show w.heap.size+1+1<o.heap.size;omega)) (Q I r.code)).set (p:=(J (w.heap.size+1+1) 1 Y)) (e:=50) (.inl (by show w.heap.size+1+1<o.heap.size;omega)) (U r.text)).set (p:=(J (w.heap.size+1+1) 2 Y)) (e:=50) (.inl (by show w.heap.size+1+1<o.heap.size;omega)) (Z a r.chain.length c));have BF:=ae (((((QN.trans (BW.mono (by omega))).setCell (p:=(J (w.heap.size+1) 0 Y)) (by show w.heap.size<=w.heap.size+1;omega) (Z g q c5)).setCell (p:=(J (w.heap.size+1+1) 0 Y)) (by show w.heap.size<=w.heap.size+1+1;omega) (Q I r.code)).setCell (p:=(J (w.heap.size+1+1) 1 Y)) (by show w.heap.size<=w.heap.size+1+1;omega) (U r.text)).setCell (p:=(J (w.heap.size+1+1) 2 Y)) (by show w.heap.size<=w.heap.size+1+1;omega) (Z a r.chain.length c));go_wp2_with fail;go_region;all_goals
      go_wp2;refine bp (v:=.tuple #[QE #[Z g q c5],QE #[Q I r.code,U r.text,Z a r.chain.length c]]) (by simp[results,Tryz.results22,go_sem,p0,r0,r1,r2]) rfl ?_;subst C;refine⟨g,c5,R,_,rfl,?_,?_,⟨a,c,rfl,?_⟩,?_⟩
      ·exact(DF.mono (by omega)).below br.drew lr
      ·rw[qr.out,IZ (by rw[<-HL.out];exact j6 _)]
       rfl
      ·exact aI (own_below OF br.drew lr) (by omega)
      ·exact BF.drew
end
end Go.Proofs.YtkdimgejdocbbaaGreatDoor.Vp
