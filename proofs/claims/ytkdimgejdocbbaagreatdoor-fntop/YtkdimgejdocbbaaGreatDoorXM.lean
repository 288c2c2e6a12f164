import Derived.Test.YtkdimgejdocbbaaGreatDoorXF
import Derived.Test.YtkdimgejdocbbaaGreatDoorXJ
set_option maxRecDepth 100000
set_option maxHeartbeats 4000000
open Go.Addr renaming mk->J
open Go.Value renaming slice->Y,string->U,int->N,agg->QE
open Option renaming none->Z,some->Q
open Go.Obj renaming cells->T
open Go.IntKind renaming i64->I
open Go renaming World->E,Value->QB
open Go.Ending renaming returned->QD
namespace Go.Proofs.YtkdimgejdocbbaaGreatDoor.Vp
open RowKit Ca
def xG (W:E)(B:Nat)(S:Spc)(x:Ent)(act:QB):Prop:=∃ a d,act=Y a (bW S x) d/\((bW S x=0/\a=Z/\d=0)∨∃ b off,a=Q (J b off Z)/\b<B/\RowIns W b off (bW S x) (S.f1 x.tg).act)
structure Plc (B:Nat)(S:Spc)(W:E)(made:List Ent)(G:ByteArray->Nat)(V:ByteArray->QB)(k:Nat)(mdv:QB):Prop where
 row:W.ownsRow B 124 1 mdv made.length (jf G made)
 ent:∀ (i:Nat) (x:Ent),made[i]?=Q x->B<=G x.name/\(∃ act,EntBlk W (G x.name) x.name x.kind x.code x.text act (V x.name) (if i<k then (i:Int) else 0)/\xG W B S x act)/\W.ownsRow B 212 5 (V x.name) x.looks.length (eX G x.looks)
 dist:made.Pairwise fun x y=>G x.name≠G y.name
theorem zk {o W:E}{S:Spc}{d:List Ent}{k:QB}(h:jX o S W d k)(A:d≠[]->SpcOk S)(u:d≠[]->∀ b off n f,0<n->RowIns o b off n f->RowIns W b off n f):∃ G V,Plc o.heap.size S W d G V 0 k:=by
 obtain⟨G,V,h1,h2,y⟩:=h;refine⟨G,V,h1,fun i x B=>?_,y⟩;have p:=D0 B;have m:d≠[]:=fun e=>by rw[e] at p;exact absurd p nj
 obtain⟨⟨act,hb,j⟩,s,z⟩:=h2 x p;refine⟨s,⟨act,by simpa using hb,?_⟩,z⟩;unfold mF at j;split at j
 ·rename_i g
  obtain⟨t,a,r,rfl,q⟩:=j;have e:bW S x=(S.f1 x.tg).actN:=by unfold bW;rw[eT g]
  obtain⟨_,hv,_⟩:=bY ((A m).act x.tg t);obtain⟨b,off,rfl,l⟩:=q.resolve_left (by omega);exact⟨_,r,by rw[e],.inr ⟨b,off,rfl,l.1,by rw[e];exact u m b off _ _ (by omega) l⟩⟩
 ·rename_i g
  have e:bW S x=0:=by unfold bW;rw[a8 g]
  exact⟨Z,0,by rw[e];exact j,.inl ⟨e,rfl,rfl⟩⟩
theorem Plc.next {B:Nat}{S:Spc}{W:E}{d:List Ent}{G:ByteArray->Nat}{V:ByteArray->QB}{k:Nat}{m:QB}{y:Ent}(h:Plc B S W d G V k m)(s:d[k]?=Q y):Plc B S (W.setCell (J (G y.name) 7 Z) (N I (k:Int))) d G V (k+1) m:=by
 obtain⟨hyB,⟨acty,C,hay⟩,hry⟩:=h.ent k y s;have j:∀ {size n:Nat} {e:TypeId} {v:QB} {u:List QB},W.ownsRow B e size v n u->e≠127->(W.setCell (J (G y.name) 7 Z) (N I (k:Int))).ownsRow B e size v n u:=fun z f=>az z (fun e=>lf z C e f) _ _;have o:∀ {x:Ent} {act:QB},xG W B S x act->xG (W.setCell (J (G y.name) 7 Z) (N I (k:Int))) B S x act:=fun⟨a,A,e,p⟩=>⟨a,A,e,p.imp id fun⟨b,off,QO,hb,r⟩=>⟨b,off,QO,hb,r.setOther _ (by show G y.name≠b;omega) _⟩⟩
 refine⟨j h.row (by decide),fun i x l=>?_,h.dist⟩;obtain⟨H,⟨act,hb,p⟩,r⟩:=h.ent i x l;refine⟨H,⟨act,?_,o p⟩,j r (by decide)⟩;by_cases e:i=k
 ·subst e
  rw[s] at l;cases l
  rw[eT (lj _)];rw[a8 (Nat.lt_irrefl _)] at hb;exact aw hb _
 ·have f:G x.name≠G y.name:=by
   obtain⟨hi,QP⟩:=kS.1 l;obtain⟨t,QQ⟩:=kS.1 s;rcases Nat.lt_or_gt_of_ne e with g | g
   ·have:=DN.1 h.dist i k hi t g
    rw[QP,QQ] at this;exact this
   ·have:=DN.1 h.dist k i t hi g
    rw[QP,QQ] at this;exact this.symm
  rw[show(if i<k+1 then (i:Int) else 0)=if i<k then (i:Int) else 0 by by_cases q:i<k<;>simp[q,show i<k+1 ↔ i<k by omega]];exact(qh _ _ _ _ f).trans hb
theorem Plc.keep {B:Nat}{S:Spc}{W W':E}{g:List Ent}{G:ByteArray->Nat}{V:ByteArray->QB}{k:Nat}{m:QB}(h:Plc B S W g G V k m)(hz:W.heap.size<=W'.heap.size)(l:∀ j,j<W.heap.size->W'.heap[j]?=W.heap[j]?):Plc B S W' g G V k m:=by refine⟨bI h.row fun j d=>l j (h.row.lt j d).2,fun i x q=>?_,h.dist⟩;obtain⟨p,⟨act,hb,a,n,e,r⟩,o⟩:=h.ent i x q;refine⟨p,⟨act,(l _ (ai hb)).trans hb,a,n,e,r.imp id fun⟨b,off,t,hb,f⟩=>⟨b,off,t,hb,ll f.1 hz,fun j d=>?_⟩⟩,bI o fun j d=>l j (o.lt j d).2⟩;have e:=l b f.1;obtain⟨s,h1,h2⟩:=f.2 j d;exact⟨(cq (a:=(J b _ Z)) e).trans s,(cq (a:=(J b _ Z)) e).trans h1,(cq (a:=(J b _ Z)) e).trans h2⟩
theorem Only.grown {b:Nat}{W w i:E}{row:Option Nat}(h:Only b W w)(d:w.grownBy i row)(n:∀ j,row=Q j->W.heap.size<=j):Only b W i:=by
 have g:∀ k,k<W.heap.size->i.heap[k]?=w.heap[k]?:=fun k f=>d.block k (ll f h.size) fun e=>by have:=n k e.symm;omega
 exact⟨d.os.trans h.os,d.tape.trans h.tape,d.output.trans h.output,j5 h.size d.size,fun k f m=>(g k f).trans (h.block k f m),fun l t fz hb=>let ⟨cs',h'⟩:=h.ty l t fz hb;⟨cs',(g b (aC hb)).trans h'⟩⟩
theorem Ew (w:E)(f b g d i l:QB)(t:TypeId):∀ j u,[f,b,g,d,i,l][j]?=Q u->(w.alloc (T #[f,b,g,d,i,l] t)).cell? (((J w.heap.size 0 Z):Addr).add j)=Q u:=by
 intro j u h;rw[addr_add];match j,h with
 | 0,h=>simp at h;subst h;simp
 | 1,h=>simp at h;subst h;simp
 | 2,h=>simp at h;subst h;simp
 | 3,h=>simp at h;subst h;simp
 | 4,h=>simp at h;subst h;simp
 | 5,h=>simp at h;subst h;simp
 | k+6,h=>simp at h
theorem Plc.settled {B:Nat}{S:Spc}{W:E}{d:List Ent}{G:ByteArray->Nat}{V:ByteArray->QB}{m:QB}(h:Plc B S W d G V d.length m)(g:PG S [] d)(QP:∀ i,i<S.n1->aS (S.f1 i)){i:Nat}{x:Ent}(k:d[i]?=Q x):Calls Tryz.prog 93 #[.pointer (Q (J (G x.name) 0 Z))] W fun r t=>∃ p q,r=QD (QE #[U x.name,N I x.kind,N I x.code,U x.text,p,q])/\DSub t W.heap.size (bi S d x,p,q)/\Below W.heap.size W t:=by obtain⟨_,⟨act,hb,a,n,rfl,H⟩,QO⟩:=h.ent i x k;have u:=D0 k;have A:=yz g QP (bi S d x) (LC u);refine uu S d G x W (G x.name) B a n (V x.name) _ hb (H.imp id fun⟨b,off,e,_,s⟩=>⟨b,off,e,s⟩) A.1 (g.ents x u).looks QO fun l QQ C=>?_;obtain⟨y,z,QN,hlt⟩:=g.asked k QQ C;obtain⟨_,⟨acty,o,_⟩,_⟩:=h.ent _ y z;obtain⟨f,-,-,-,-,-,-,-,j,-⟩:=o.facts;rw[eT (kS.1 z).1] at j;rw[QN] at j f;exact⟨j,f⟩
section
variable {S:Spc}{a0 a1:Option Addr}{c0 c1:Nat}
theorem mw (w:E)(nm:ByteArray)(ph:SlSource w a0 S.n0 S.f0)(mv:SlTarget w a1 S.n1 S.f1)(hn0:S.n0<=1048576)(hn1:S.n1<=1048576)(M:∀ i,i<S.n1->aS (S.f1 i))(hT:Tab w)(ex:Tab2 w)(hP:Pow w):Calls Tryz.prog 22 #[QE #[Y a0 S.n0 c0,Y a1 S.n1 c1],U nm] w fun e w'=>∃ a c R rv,e=QD (.tuple #[QE #[Y a R.length c],rv])/\DRow w' w.heap.size (Y a R.length c) R/\R.map (·.1)=bk S (bj S nm).1/\iJ w w' (bj S nm).2 rv/\Below w.heap.size w w':=by
 have QM:=ae ((((Qs w).alloc lr (T #[Y a0 S.n0 c0,Y a1 S.n1 c1] 26)).alloc (by simp) (T #[Y Z 0 0] 50)).alloc (by simp<;>omega) (T #[N I 0,U ⟨#[]⟩,Y Z 0 0] 41));have HB:=ae (zi (c0:=c0) (c1:=c1) (((w.alloc (T #[Y a0 S.n0 c0,Y a1 S.n1 c1] 26)).alloc (T #[Y Z 0 0] 50)).alloc (T #[N I 0,U ⟨#[]⟩,Y Z 0 0] 41)) nm (ph.below QM lr) (mv.below QM lr) hn0 hn1 M (hT.below QM hT.1) (ex.below QM ex.1) (hP.below QM lr));have kA:Hid ((((w.alloc (T #[Y a0 S.n0 c0,Y a1 S.n1 c1] 26)).alloc (T #[Y Z 0 0] 50)).alloc (T #[N I 0,U ⟨#[]⟩,Y Z 0 0] 41)).heap[w.heap.size+1]?=Q (T #[Y Z 0 0] 50 (0,0))):=by have h2:=eL (w.alloc (T #[Y a0 S.n0 c0,Y a1 S.n1 c1] 26)) (T #[Y Z 0 0] 50);rw[show(w.alloc (T #[Y a0 S.n0 c0,Y a1 S.n1 c1] 26)).heap.size=w.heap.size+1 by simp] at h2;exact(((eI (w.heap.size+2) _).alloc (by simp) _).block (w.heap.size+1) (by omega)).trans h2
 have kR:Hid ((((w.alloc (T #[Y a0 S.n0 c0,Y a1 S.n1 c1] 26)).alloc (T #[Y Z 0 0] 50)).alloc (T #[N I 0,U ⟨#[]⟩,Y Z 0 0] 41)).heap[w.heap.size+1+1]?=Q (T #[N I 0,U ⟨#[]⟩,Y Z 0 0] 41 (0,0))):=by have h2:=eL ((w.alloc (T #[Y a0 S.n0 c0,Y a1 S.n1 c1] 26)).alloc (T #[Y Z 0 0] 50)) (T #[N I 0,U ⟨#[]⟩,Y Z 0 0] 41);rw[show((w.alloc (T #[Y a0 S.n0 c0,Y a1 S.n1 c1] 26)).alloc (T #[Y Z 0 0] 50)).heap.size=w.heap.size+1+1 by simp] at h2;exact h2
 have Fu:(((w.alloc (T #[Y a0 S.n0 c0,Y a1 S.n1 c1] 26)).alloc (T #[Y Z 0 0] 50)).alloc (T #[N I 0,U ⟨#[]⟩,Y Z 0 0] 41)).heap.size=w.heap.size+3:=by simp
 obtain⟨P,QN,A⟩:=oJ S nm;have Fl:=ae M;obtain⟨bb,n8⟩:∃ bb,bb=bj S nm:=⟨_,rfl⟩
 rw[<-n8] at HB P QN A ⊢;clear ph mv M hT ex hP n8;obtain⟨b,r⟩:=bb;simp only at P QN A ⊢;have Fo:=ae P;have n6:=ae A;clear P A;obtain⟨Fs,hi,Fr,Fm,DA⟩:=IQ zC;go_enter Tryz.func22,Tryz.ntmps22;go_wp2_with fail;generalize ((w.alloc (T #[Y a0 S.n0 c0,Y a1 S.n1 c1] 26)).alloc (T #[Y Z 0 0] 50)).alloc (T #[N I 0,U ⟨#[]⟩,Y Z 0 0] 41)=z at QM HB kA kR Fu ⊢;refine HB.mono ?_;rintro e QO ⟨wb,mdv,rv,sm,rfl,W,⟨a,c,rfl,n⟩,O,QK⟩;obtain⟨G,V,H⟩:=zk W n6 QK;obtain⟨am,cm,rfl⟩:=bX H.row;have ur:z.heap.size<=wb.heap.size:=sm.size;have A1:=ae ((Qs QO).alloc lr (T #[N I r.code,U r.text,Y a r.chain.length c] 41));have O1:=ae (own_below n A1 lr);have P1:=ae (H.keep A1.size fun j l=>A1.block j l);have B1:=ae (O.trans (A1.mono O.size));have k1:Hid ((QO.alloc (T #[N I r.code,U r.text,Y a r.chain.length c] 41)).heap[QO.heap.size]?=Q (T #[N I r.code,U r.text,Y a r.chain.length c] 41 (0,0))):=eL _ _;have Fq:z.heap.size<=QO.heap.size:=O.size;obtain⟨B,n9⟩:∃ B,B=wb.heap.size:=⟨_,rfl⟩
 rw[<-n9] at P1 ur;clear sm W n O QK H n9 HB n6;obtain⟨L,hL⟩:∃ L,L=b.length:=⟨_,rfl⟩
 have HL:=ae hL;rw[<-hL] at QN P1 ⊢;clear hL;go_wp2;generalize QO.alloc (T #[N I r.code,U r.text,Y a r.chain.length c] 41)=W1 at A1 O1 P1 B1 k1 ⊢;generalize QO.heap.size=rb at k1 Fq ⊢;clear A1;go_loopw [21] (fun i wr=>∃ k:Nat,k<=L/\i=N I k/\Hid (Plc B S wr b G V k (Y am L cm))/\Hid (wr.heap[rb]?=Q (T #[N I r.code,U r.text,Y a r.chain.length c] 41 (0,0)))/\Hid (wr.ownsRow z.heap.size 9 1 (Y a r.chain.length c) r.chain.length (bq r.chain))/\Hid (Below z.heap.size z wr)) (fun i _=>L - (intOf i).toNat);case atStart=>exact⟨0,by omega,rfl,P1,k1,O1,B1⟩
 case round =>
  clear P1 k1 O1 B1;obtain⟨k,hk,rfl,P2,k2,QH,B2⟩:=hrel;by_cases Fd:k<L
  ·obtain⟨y,hy⟩:∃ y,b[k]?=Q y:=⟨_,gq (by rw[<-HL.out];exact Fd)⟩
   obtain⟨hyB,⟨act,X,-⟩,-⟩:=P2.ent k y hy;have d:=P2.row;rw[<-HL.out] at d;obtain⟨gm,DQ,e⟩:=iL d (by omega);simp only[CN,LN] at e;obtain⟨rfl,rfl⟩:=e;have cp:wr.cell? (J gm k Z)=Q (.pointer (Q (J (G y.name) 0 Z))):=(bv d (by rw[jf,ID,hy];rfl)).1;have Fp:=(dR d).2;obtain⟨hyl,-,-,-,-,-,-,-,y7,yf⟩:=X.facts;have yf7:=yf 7;have P3:=ae (P2.next hy);have k3:Hid ((wr.setCell (J (G y.name) 7 Z) (N I (k:Int))).heap[rb]?=Q (T #[N I r.code,U r.text,Y a r.chain.length c] 41 (0,0))):=(qh _ _ _ _ (fun e=>by have:=ah (e ▸ k2.out) X;exact absurd this (by decide))).trans k2;have O3:=ae (az QH (fun e=>lf QH X e (by decide)) 7 (N I (k:Int)));have B3:=ae (B2.setCell (p:=(J (G y.name) 7 Z)) (by show z.heap.size<=G y.name;omega) (N I (k:Int)));clear hy yf X d;go_wp2;exact⟨⟨k+1,by omega,by go_num,P3,k3,O3,B3⟩,by simp[intOf];omega⟩
  ·have e:k=L:=by omega
   subst e;have A3:=ae ((Qs wr).alloc lr (T #[Y Z 0 0] 50));have k3:Hid ((wr.alloc (T #[Y Z 0 0] 50)).heap[wr.heap.size]?=Q (T #[Y Z 0 0] 50 (0,0))):=eL _ _;have At:(wr.alloc (T #[Y Z 0 0] 50)).heap.size=wr.heap.size+1:=by simp
   go_wp2;generalize wr.alloc (T #[Y Z 0 0] 50)=o at A3 k3 At ⊢;obtain⟨f,Fi⟩:∃ f,f=wr:=⟨_,rfl⟩
   subst Fi;go_loopw [33] (fun i wq=>∃ (q:Nat) (g:Option Addr) (c5:Nat) (R:List DR),q<=k/\i=N I q/\R.length=q/\Hid (R.map (·.1)=(b.take q).map (bi S b))/\Hid (DRow wq o.heap.size (Y g q c5) R)/\Hid (wq.heap[f.heap.size]?=Q (T #[Y g q c5] 50 (0,0)))/\Hid (Only f.heap.size o wq)) (fun i _=>k - (intOf i).toNat);case atStart=>exact⟨0,Z,0,[],by omega,rfl,rfl,rfl,zL _ _,k3,Only.refl _ _⟩
   case round =>
    obtain⟨q,g,c5,R,hq,rfl,QQ,n7,D4,k4,Y4⟩:=hrel;have Fk:o.heap.size<=wr.heap.size:=Y4.size;have DE:f.heap.size<o.heap.size:=by omega
    by_cases Fh:q<k
    ·obtain⟨x,hx⟩:∃ x,b[q]?=Q x:=⟨_,gq (by rw[<-HL.out];exact Fh)⟩
     have P5:Hid (Plc B S wr b G V b.length (Y am k cm)):=by have h:=P2.keep (W':=wr) (by omega) fun j l=>(Y4.block j (by omega) (by omega)).trans (A3.block j l);rw[<-HL.out];exact h
     have d:=P5.row;rw[<-HL.out] at d;obtain⟨gm,DQ,e⟩:=iL d (by omega);simp only[CN,LN] at e;obtain⟨rfl,rfl⟩:=e;have cp:wr.cell? (J gm q Z)=Q (.pointer (Q (J (G x.name) 0 Z))):=(bv d (by rw[jf,ID,hx];rfl)).1;have Fp:=(dR d).2;have Fj:Hid (Calls Tryz.prog 93 #[.pointer (Q (J (G x.name) 0 Z))] wr.drew fun r w'=>∃ va vl,r=QD (QE #[U x.name,N I x.kind,N I x.code,U x.text,va,vl])/\DSub w' wr.drew.heap.size (bi S b x,va,vl)/\Below wr.drew.heap.size wr.drew w'):=(P5.keep (W':=wr.drew) lr fun j _=>rfl).settled Fo Fl hx;have HX:=ae hx;have SQ:Hid (∀ V:E,(∀ j,j<wr.heap.size->Q j≠(Value.slice g q c5).ownBlock->V.heap[j]?=wr.heap[j]?)->V.heap[f.heap.size]?=Q (T #[Y g q c5] 50 (0,0))/\V.cell? (J f.heap.size 0 Z)=Q (Y g q c5)):=fun V hV=>by have h1:=(hV f.heap.size (ai k4) fun e=>by have h:=D4.own;rw[QQ] at h;have:=(h.lt _ e.symm).1;omega).trans k4;exact⟨h1,by simp[World.cell?,h1]⟩
     clear d hx;go_wp2_with fail;refine bm (fun V=>V.heap[f.heap.size]?=Q (T #[Y g q c5] 50 (0,0))/\V.cell? (J f.heap.size 0 Z)=Q (Y g q c5)) 7 (by as_aux_lemma=>kernel_rfl) ?_;have HS:=ae (SQ wr.drew (fun j l _=>rfl))
     iterate 3
      refine bw 0 (v:=?_) rfl rfl (by as_aux_lemma=>kernel_rfl) (fun _ _ _ h=>h) rfl ?_ HS ?_;rotate_left
      ·(intro wz Ft;obtain⟨s0,s1⟩:=Ft;go_simp)
       (try with_reducible rfl)
      (try simp only[Act.put,nzL])
     refine ar (i:=3) rfl (by as_aux_lemma=>kernel_rfl) (fun K m=>?_);go_simp;go_at_call 93;refine Fj.mono ?_;rintro e u ⟨va,vl,rfl,QJ,t⟩;have aq:u.ownsRow wr.heap.size 188 3 va (bW S x) (cB (S.f1 x.tg).act (bW S x)):=QJ.act;have bt:u.ownsRow wr.heap.size 64 4 vl x.looks.length (jC (lkF b x.looks) x.looks.length):=QJ.lnk;obtain⟨C,ld⟩:∃ C,C=bW S x:=⟨_,rfl⟩
     obtain⟨QP,qr⟩:∃ QP,QP=x.looks.length:=⟨_,rfl⟩
     rw[<-ld] at aq;rw[<-qr] at bt;obtain⟨QG,cg,rfl⟩:=bX aq;obtain⟨al,cl,rfl⟩:=bX bt;clear aq bt;have B5:Hid (Below wr.heap.size wr u):=⟨t.os,t.tape,t.output,t.size,t.block⟩
     have S5:Hid (DSub u wr.heap.size (bi S b x,Y QG C cg,Y al QP cl)):=QJ;clear QJ t ld qr;refine m _ _ (fun _=>SQ _ (fun j l _=>B5.block j l)) ?_;clear m K HS
     (try simp only[Act.put,nzL])
     refine ar (i:=4) rfl (by as_aux_lemma=>kernel_rfl) (fun K m=>?_);go_simp;have AB:=ae ((Qs u).alloc lr (T #[U x.name,N I x.kind,N I x.code,U x.text,Y QG C cg,Y al QP cl] 58));have B6:=ae (B5.trans (AB.mono B5.size));have D6:=ae (D4.below B6 lr);have S6:=ae (S5.below AB lr);have OW:Hid (World.ownsRow (u.alloc (T #[U x.name,N I x.kind,N I x.code,U x.text,Y QG C cg,Y al QP cl] 58)) o.heap.size 58 6 (Y g q c5) q (R.flatMap ddV)):=by have h:=D6.own;rw[QQ] at h;exact h
     refine m _ _ (fun _=>SQ _ (fun j l _=>B6.block j l)) ?_;clear m K
     (try simp only[Act.put,nzL])
     refine ar (i:=5) rfl (by as_aux_lemma=>kernel_rfl) (fun K m=>?_);refine bA rfl (.tmp 38) (.tmp 41) 48 rfl o.heap.size 58 Fs (QE #[U ⟨#[]⟩,N I 0,N I 0,U ⟨#[]⟩,Y Z 0 0,Y Z 0 0]) 6 96 Tryz.underlying48 hi Fr Fm DA rfl (by decide) (Y g q c5) q (R.flatMap ddV) (by simp[Act.eval]) OW.out (J u.heap.size 0 Z) 1 1 [U x.name,N I x.kind,N I x.code,U x.text,Y QG C cg,Y al QP cl] (by simp[Act.eval]) rfl (Ew u _ _ _ _ _ _ _) (by simp[Value.oneCell']) (by unfold maxLen;omega) (by omega) (by have:=B6.size;omega) ?_;intro v' w7 n s _;obtain⟨a7,c7,rfl⟩:=bX n;have ro:∀ j,(Value.slice g q c5).ownBlock=Q j->o.heap.size<=j:=fun j e=>(OW.lt j e).1;have S7:=ae (SQ w7 (fun j l Bk=>(s.block j (ll l B6.size) Bk).trans (B6.block j l)));have D7:Hid (DRow w7 o.heap.size (Y a7 (q+1) c7) (R++[(bi S b x,Y QG C cg,Y al QP cl)])):=DRow.more D4 D6 Fk S6 (by rw[QQ];exact n) s;have Y7:=ae ((Y4.trans (Only.of_below B6)).grown s ro);clear n s ro;refine m _ _ (fun _=>S7) ?_;clear m K
     (try simp only[Act.put,nzL])
     refine ar (i:=6) rfl (by as_aux_lemma=>kernel_rfl) (fun K m=>?_);go_simp;refine m _ _ (fun _=>S7) ?_;clear m K
     (try simp only[Act.put,nzL])
     obtain⟨s7,t7⟩:=S7.out;have f7:w7.frozen? (J f.heap.size 0 Z)=false:=by simp[World.frozen?,s7]
     have l7:=ai s7;have D8:=ae (D7.set (p:=(J f.heap.size 0 Z)) (e:=50) (.inl DE) (Y a7 (q+1) c7));have k8:Hid ((w7.setCell (J f.heap.size 0 Z) (Y a7 (q+1) c7)).heap[f.heap.size]?=Q (T #[Y a7 (q+1) c7] 50 (0,0))):=aw s7 _;have Y8:=ae (bZ Y7 0 (Y a7 (q+1) c7));clear s7;refine ar (i:=7) rfl (by as_aux_lemma=>kernel_rfl) (fun K m=>?_);go_simp;refine m _ _ (fun h=>absurd rfl h) ?_;clear m K
     (try simp only[Act.put,nzL])
     refine bJ (by as_aux_lemma=>kernel_rfl) ?_ _;go_wp2;refine⟨⟨q+1,a7,c7,_,by omega,by go_num,by rw[cM,QQ];rfl,?_,D8,k8,Y8⟩,by simp[intOf];omega⟩;show(R++[((bi S b x,Y QG C cg,Y al QP cl):DR)]).map (·.1)=_;rw[E2,n7.out,List.take_add_one,HX.out];simp
    ·have e:q=k:=by omega
     subst e;have hab2:f.heap.size≠w.heap.size+1:=by have:=B2.size;omega
     have hab3:f.heap.size≠w.heap.size+1+1:=by have:=B2.size;omega
     have hwA:=B2.size;have BW:Hid (Below z.heap.size z wr):=B2.trans ((A3.mono (by omega)).trans (Y4.below (by omega) (by omega)));have QL:=(BW.block (w.heap.size+1) (by omega)).trans kA;have la:=(BW.block (w.heap.size+1+1) (by omega)).trans kR;have th:rb<f.heap.size:=ai k2.out;have fd:wr.heap[rb]?=_:=(Y4.block rb (by omega) (by omega)).trans ((A3.block rb th).trans k2);have O4:Hid (wr.ownsRow z.heap.size 9 1 (Y a r.chain.length c) r.chain.length (bq r.chain)):=bI QH fun j l=>(Y4.block j (by have:=(QH.lt j l).2;omega) (by have:=(QH.lt j l).2;omega)).trans (A3.block j (QH.lt j l).2);obtain⟨rl,r0,r1,r2,rf⟩:=cV la;have rf0:=rf 0;have rf1:=rf 1;have rf2:=rf 2;obtain⟨bl,b0,b1,b2,-⟩:=cV fd;have p0:wr.cell? (J (w.heap.size+1) 0 Z)=Q (Y Z 0 0):=by simp[World.cell?,QL]
     have pf0:wr.frozen? (J (w.heap.size+1) 0 Z)=false:=by simp[World.frozen?,QL]
     have pl:=ai QL;have q0:wr.cell? (J f.heap.size 0 Z)=Q (Y g q c5):=by simp[World.cell?,k4.out]
     have ql:=ai k4.out;clear rf QL la fd;have OF:=ae (aG (aG (aG (aG O4 (R:=w.heap.size+1) (j:=0) (by omega) (Y g q c5)) (R:=w.heap.size+1+1) (j:=0) (by omega) (N I r.code)) (R:=w.heap.size+1+1) (j:=1) (by omega) (U r.text)) (R:=w.heap.size+1+1) (j:=2) (by omega) (Y a r.chain.length c));have DF:=ae ((((D4.set (p:=(J (w.heap.size+1) 0 Z)) (e:=50) (.inl (by show w.heap.size+1<o.heap.size;omega)) (Y g q c5)).set (p:=(J (w.heap.size+1+1) 0 Z)) (e:=50) (.inl (by show w.heap.size+1+1<o.heap.size;omega)) (N I r.code)).set (p:=(J (w.heap.size+1+1) 1 Z)) (e:=50) (.inl (by show w.heap.size+1+1<o.heap.size;omega)) (U r.text)).set (p:=(J (w.heap.size+1+1) 2 Z)) (e:=50) (.inl (by show w.heap.size+1+1<o.heap.size;omega)) (Y a r.chain.length c));have BF:=ae (((((QM.trans (BW.mono (by omega))).setCell (p:=(J (w.heap.size+1) 0 Z)) (by show w.heap.size<=w.heap.size+1;omega) (Y g q c5)).setCell (p:=(J (w.heap.size+1+1) 0 Z)) (by show w.heap.size<=w.heap.size+1+1;omega) (N I r.code)).setCell (p:=(J (w.heap.size+1+1) 1 Z)) (by show w.heap.size<=w.heap.size+1+1;omega) (U r.text)).setCell (p:=(J (w.heap.size+1+1) 2 Z)) (by show w.heap.size<=w.heap.size+1+1;omega) (Y a r.chain.length c));go_wp2_with fail;go_region;all_goals
      go_wp2;refine bp (v:=.tuple #[QE #[Y g q c5],QE #[N I r.code,U r.text,Y a r.chain.length c]]) (by simp[results,Tryz.results22,go_sem,p0,r0,r1,r2]) rfl ?_;subst QQ;refine⟨g,c5,R,_,rfl,?_,?_,⟨a,c,rfl,?_⟩,?_⟩
      ·exact(DF.mono (by omega)).below br.drew lr
      ·rw[n7.out,IY (by rw[<-HL.out];exact j6 _)]
       rfl
      ·exact aI (own_below OF br.drew lr) (by omega)
      ·exact BF.drew
end
end Go.Proofs.YtkdimgejdocbbaaGreatDoor.Vp
