import Derived.Test.YtkdimgejdocbbaaGreatDoorXC
import Derived.WalkSmall
set_option maxRecDepth 1000000
set_option maxHeartbeats 8000000
open Go.Addr renaming mk->J
open Go.Value renaming slice->Z,string->U,int->Q,agg->QE
open Option renaming none->Y,some->N
open Go.Obj renaming cells->T
open Go.IntKind renaming i64->I
open Go renaming World->E,Value->QB,TypeId->QF
open Bool renaming false->D,true->QC
open Go.Ending renaming returned->QD
namespace Go.Proofs.YtkdimgejdocbbaaGreatDoor.Vp
open RowKit Ca Go.Maps
theorem tv {w:E}{i:Array Oper}{o:Oper}{a:Act}{K:Act->E->Prop}{QM:Exit->Act->E->Prop}{QP:Prop}(y:o.guard=Y)(m x v:Operand)(t:QF)(l:o.op=Op.mapUpdate t m x v)(e:QF)(z:Tryz.prog.underlying t=N (.map 9 e))(b n:Nat)(G:List UInt8->Option QB)
  (B:a.eval m=.map (N b)) (j:MapN w b n G) (QN:n<maxLen) (g:ByteArray) (f:QB) (QO:a.eval x=U g) (H:a.eval v=f) (C:g.size<=maxLen)
  (A:∀ h,MapN h b (n+1) (fun s=>if s=g.toList then N f else G s)->w.grownBy h (N b)->K (a.put o.dst undef) h) :
  if Region.wanted o (yielded i a.tmps)=QC then Oper.wp Tryz.prog o a w K QM else QP:=by
 have u:Region.wanted o (yielded i a.tmps)=QC:=by simp[Region.wanted,y]
 rw[eT u];obtain⟨QQ,p,r⟩:=j;obtain⟨h,k,r1,q⟩:=p.update px z QN (JZ Tryz.underlying9 C) (val:=f) (d:=.held f) (ps:=[]) rfl;unfold Oper.wp;simp[execOp,l,B,QO,H,k,Result.andThen];refine A h ⟨_,r1,?_⟩ q;have:=tk (x:=g.toList) (v:=f) p.isMap r;rw[IA] at this ⊢;exact this
theorem yW (w:E)(v:QB)(t:QF):∀ j u,[v][j]?=N u->(w.alloc (T #[v] t)).cell? (((J w.heap.size 0 Y):Addr).add j)=N u:=by
 intro j u h;rw[addr_add];have d:j=0:=by
  rcases IX j 1 with b | b
  ·omega
  ·rw[IQ (by simp;omega)] at h;cases h
 subst d;simp at h;subst h;simp
theorem wrapM {z:Int}(h0:0<=z)(h1:z<=1048576):IntKind.i64.wrap z=z:=by rw[vF];omega
def dC (w0:E)(S:Spc)(mb mp:Nat)(s0 s1:QB)(making:List ByteArray)(made:List Ent)(G:ByteArray->Nat)(V:ByteArray->QB)(w:E)(nm:ByteArray)(e:Ending)(f:E):Out Ent->Prop
 | .inl (made',x)=>∃ b i h n m j o g,made'=b++[x]/\(i=making∨i=making++[nm])/\e=QD (.pointer (N (J g 0 Y)))/\MI w0 S mb mp s0 s1 f i making b h n m j/\EntAt w0 S h f g o x/\x.name=nm/\(∀ y∈b,y.name≠nm)/\PG S making b/\(∀ l∈x.looks,l.ask=QC->∃ y∈b,y.name=l.name)/\(∀ y∈b,h y.name≠g)/\w.heap.size<=g/\(∀ k,o.ownBlock=N k->w.heap.size<=k)/\Ext w.heap.size made b G h V n/\KX w0.heap.size XN w f
 | .inr (.inl c)=>∃ v,e=.panicked [{ v:=.iface 269 (QE #[v]),recovered:=D }]/\f.ownsRow w0.heap.size 9 1 v c.length (bq c)/\Below w0.heap.size w f
 | .inr (.inr d)=>e=.panicked [{ v:=.iface 271 (QE #[U d]),recovered:=D }]/\Below w0.heap.size w f
section
variable {w0:E}{S:Spc}{a0 a1:Option Addr}{c0 c1 mb mp:Nat}{mk md:QB}{making:List ByteArray}{made:List Ent}{G:ByteArray->Nat}{V:ByteArray->QB}
theorem ut (w:E)(a:Option Addr)(cnt b:Nat)(nm:ByteArray)(h:MI w0 S mb mp (Z a0 S.n0 c0) (Z a1 S.n1 c1) w making making made G V mk md)(d:making.length=60):Calls Tryz.prog 241 #[.pointer (N (J mb 0 Y)),QE #[U nm,Z a cnt b]] w fun e j=>e=.panicked [{ v:=.iface 271 (QE #[U nm]),recovered:=D }]/\Below w.heap.size w j:=by
 obtain⟨ak,ck,rfl⟩:=bX h.rmk;have g:=ae ((Qs w).alloc lr (T #[U nm,Z a cnt b] 108));have f:=ae (h.below g lr);obtain⟨hml,-,-,-,i,-,-⟩:=f.box.facts;have k0:(w.alloc (T #[U nm,Z a cnt b] 108)).cell? (J w.heap.size 0 Y)=N (U nm):=by simp
 rw[d] at i;clear h f d;go_enter Tryz.func241,Tryz.ntmps241;go_wp2_with fail;exact⟨rfl,rfl,g⟩
theorem xw (C:Ctx w0 S a0 c0 a1 c1)(n:Nat)(HL:ji w0 S mb mp (Z a0 S.n0 c0) (Z a1 S.n1 c1) n)(w:E)(a:Option Addr)(b tg:Nat)(nm:ByteArray)(hlen:making.length+(n+1)=60)(h:MI w0 S mb mp (Z a0 S.n0 c0) (Z a1 S.n1 c1) w making making made G V mk md)(hp:PG S making made)(t:ed S making made 1)(hn:au nm=QC)(h0:aK made nm=Y)(h1:atL making nm=Y)(h2:atI (nm1 S.f1) S.n1 nm=N tg)(n8:SlIns w0 a (S.f1 tg).actN (S.f1 tg).act):Calls Tryz.prog 241 #[.pointer (N (J mb 0 Y)),QE #[U nm,Z a (S.f1 tg).actN b]] w fun e w'=>dC w0 S mb mp (Z a0 S.n0 c0) (Z a1 S.n1 c1) making made G V w nm e w' (me S (n+1) making made nm tg):=by
 obtain⟨i1,hi,Fj,Fh,Fl⟩:=oN Bh;obtain⟨QO,QP,rfl⟩:=bX h.rmk;have Fd:w0.heap.size<=w.heap.size:=h.lt;have Fm:nm.size<=maxLen:=by have:=mg hn;unfold maxLen;omega
 have A0:=ae ((Qs w).alloc lr (T #[U nm,Z a (S.f1 tg).actN b] 108));have kt:Hid ((w.alloc (T #[U nm,Z a (S.f1 tg).actN b] 108)).heap[w.heap.size]?=N (T #[U nm,Z a (S.f1 tg).actN b] 108 (0,0))):=eL _ _;have M0:=ae (h.below A0 lr);have CC:=ae C;have Fs:=ae HL;have HP:=ae hp;have HN:=ae hn;have H0:=ae h0;have H1:=ae h1;have H2:=ae h2;have At:=ae n8;have hmade:made.length<=50000:=by unfold ed at t;omega
 have Fp:=ae t;clear h C HL hp hn h0 h1 h2 n8 t;obtain⟨L,hL⟩:∃ L,L=making.length:=⟨_,rfl⟩
 have j:=ae hL;have hL60:L<60:=by omega
 obtain⟨H,-,-,m2,p,-,-⟩:=M0.box.facts;obtain⟨-,A,-⟩:=(show(w.alloc (T #[U nm,Z a (S.f1 tg).actN b] 108)).cell? (J w.heap.size 0 Y)=N (U nm)/\(w.alloc (T #[U nm,Z a (S.f1 tg).actN b] 108)).cell? (J w.heap.size 0 Y)=N (U nm)/\True from⟨by simp,by simp,trivial⟩)
 rw[<-hL] at p;clear hL;have hL60i:((L:Int) == 60)=D:=by simp;omega
 go_enter Tryz.func241,Tryz.ntmps241;go_wp2_with fail;generalize w.alloc (T #[U nm,Z a (S.f1 tg).actN b] 108)=W0 at A0 kt M0 m2 p H A ⊢;refine wp_region_held_drew (S:=fun V=>V.cell? (J mb 2 Y)=N (.map (N mp))/\V.cell? (J mb 3 Y)=N (Z QO L QP)/\V.cell? (J w.heap.size 0 Y)=N (U nm)) (by as_aux_lemma=>kernel_rfl) ⟨m2,p,A⟩ (fun hS=>?_);have l:=ae hS;clear hS
 iterate 12
  refine bS 0 (v:=?_) rfl rfl (by as_aux_lemma=>kernel_rfl) (fun _ _ _ h=>h) rfl ?_ l ?_;rotate_left
  ·(intro wz aq;obtain⟨s0,s1,s2⟩:=aq;go_simp)
   (try with_reducible rfl)
  (try simp only[Act.put,nzL])
 have MD:=ae (M0.below (eI _ W0).drew lr);refine bN (i:=12) rfl (by as_aux_lemma=>kernel_rfl) (fun K f=>?_);refine tv rfl _ _ _ 202 rfl 274 Tryz.underlying202 mp (2*made.length+making.length) (dw G making made) rfl MD.map (by unfold maxLen;omega) nm (QE #[Q I (L:Int),.pointer Y]) rfl rfl Fm ?_;intro o ld qr;have QK:=ae (MD.mapped (cnt':=2*made.length+(making++[nm]).length) (F':=dw G (making++[nm]) made) qr ((ld.congr fun s=>by rw[<-xv H0.out H1.out s,<-j.out]).mono (by simp;omega)));clear ld qr;have P:=ae QK.1;have K1:Hid (KX w0.heap.size XN w o):=(KX.of_below (X:=XN) (A0.trans ((eI _ W0).drew.mono A0.size)) lr Fd).to QK.2;have QQ:Hid (o.heap[w.heap.size]?=N (T #[U nm,Z a (S.f1 tg).actN b] 108 (0,0))):=(QK.2.blk _ _ _ _ kt (by decide) (by decide) (by decide) fun h=>h).trans kt;clear l m2 p A H QK;obtain⟨H,-,-,m2,p,-,-⟩:=P.box.facts;rw[<-j.out] at p;have Fk:w.heap.size<o.heap.size:=ai QQ.out;have A:o.cell? (J w.heap.size 0 Y)=N (U nm):=by simp[World.cell?,QQ.out]
 refine f _ _ ⟨m2,p,A⟩ ?_;clear f K
 (try simp only[Act.put])
 refine wpAnyH_done (by as_aux_lemma=>kernel_rfl) ?_ _;clear MD M0 kt;go_wp2_with fail;have SQ:Hid (∀ V:E,(∀ k,k<o.heap.size->N k≠(Value.slice QO L QP).ownBlock->V.heap[k]?=o.heap[k]?)->V.cell? (J mb 3 Y)=N (Z QO L QP)/\V.cell? (J w.heap.size 0 Y)=N (U nm)):=fun V hV=>by
  have B:N mb≠(Value.slice QO L QP).ownBlock:=fun e=>by obtain⟨_,_,cs,hc⟩:=af P.rmk mb (by rw[<-j.out];exact e.symm);exact absurd (ah P.box hc) (by decide)
  have sm:N w.heap.size≠(Value.slice QO L QP).ownBlock:=fun e=>by obtain⟨_,_,cs,hc⟩:=af P.rmk w.heap.size (by rw[<-j.out];exact e.symm);exact absurd (ah QQ hc) (by decide)
  exact⟨(cq (a:=(J mb 3 Y)) (hV mb H B)).trans p,(cq (a:=(J w.heap.size 0 Y)) (hV w.heap.size Fk sm)).trans A⟩
 have l:=ae (SQ o.drew (fun k y _=>rfl));refine bm (fun V=>V.cell? (J mb 3 Y)=N (Z QO L QP)/\V.cell? (J w.heap.size 0 Y)=N (U nm)) 11 (by as_aux_lemma=>kernel_rfl) ?_;clear m2 p A
 iterate 7
  first | refine bw 0 (v:=?_) rfl rfl (by as_aux_lemma=>kernel_rfl) (fun _ _ _ h=>h) rfl ?_ l ?_ | refine bw 5 (v:=?_) rfl rfl (by as_aux_lemma=>kernel_rfl) (fun _ _ _ h=>h) rfl ?_ l ?_
  rotate_left
  ·(intro wz aq;obtain⟨s0,s1⟩:=aq;go_simp)
   (try with_reducible rfl)
  (try simp only[Act.put,nzL])
 refine ar (i:=7) rfl (by as_aux_lemma=>kernel_rfl) (fun K f=>?_);go_simp;have AB:=ae (((Qs o).drew).alloc lr (T #[U nm] 9));have QL:=ae (P.below AB lr);refine f _ _ (fun _=>SQ _ (fun k y _=>AB.block k y)) ?_;clear f K
 (try simp only[Act.put,nzL])
 have RK:=ae (by have h:=QL.rmk;rw[<-j.out] at h;exact h);refine ar (i:=8) rfl (by as_aux_lemma=>kernel_rfl) (fun K f=>?_);refine bA rfl (.tmp 32) (.tmp 35) 39 rfl w0.heap.size 9 i1 (U ⟨#[]⟩) 1 16 Tryz.underlying39 hi Fj Fh Fl rfl (by decide) (Z QO L QP) L (bq making) (by simp[Act.eval]) RK.out (J o.heap.size 0 Y) 1 1 [U nm] (by simp[Act.eval]) rfl (yW o.drew _ _) (by simp[Value.oneCell']) (by unfold maxLen;omega) (by omega) QL.lt ?_;intro v' QM O z DE;have O3:=ae O;have G3:=ae z;have S3:=ae (SQ QM (fun k y B=>(z.block k (ll y (by simp<;>omega)) B).trans (AB.block k y)));obtain⟨g4,r,cur4,rfl,W⟩:=O.2.resolve_left (fun h=>by omega);clear W;clear O z DE;refine f _ _ (fun _=>S3) ?_;clear f K l
 (try simp only[Act.put,nzL])
 iterate 2
  refine df 9 rfl rfl (by as_aux_lemma=>kernel_rfl) (fun K f=>?_);go_simp;refine f _ _ (fun _=>S3) ?_;clear f K
  (try simp only[Act.put,nzL])
 have M4:Hid (MI w0 S mb mp (Z a0 S.n0 c0) (Z a1 S.n1 c1) (QM.setCell (J mb 3 Y) (Z (N (J g4 0 Y)) (L+1) r)) (making++[nm]) (making++[nm]) made G V (Z (N (J g4 0 Y)) (L+1) r) md/\KX w0.heap.size XN o (QM.setCell (J mb 3 Y) (Z (N (J g4 0 Y)) (L+1) r))):=by have h4:=QL.mked (w':=QM) (nk':=(making++[nm]).length) (ks':=bq (making++[nm])) (v:=Z (N (J g4 0 Y)) (L+1) r) (by rw[<-j.out];exact G3) (by rw[cM,p8,<-j.out];simpa[bq] using O3.out);exact⟨h4.1,(KX.of_below (X:=XN) AB lr P.lt).to h4.2⟩
 have s3:=S3.1;have th:mb<QM.heap.size:=ll H (j5 (by simp<;>omega) G3.size);have Fr:QM.frozen? (J mb 3 Y)=D:=by
  have B:N mb≠(Value.slice QO L QP).ownBlock:=fun e=>by obtain⟨_,_,cs,hc⟩:=af RK mb e.symm;exact absurd (ah QL.box hc) (by decide)
  exact(DN (a:=(J mb 3 Y)) (G3.block mb (ai QL.box) B)).trans (QL.box.facts.2.2.2.2.2.2 3)
 refine ar (i:=11) rfl (by as_aux_lemma=>kernel_rfl) (fun K f=>?_);go_simp;refine f _ _ (fun h=>absurd rfl h) ?_;clear f K s3 Fr
 (try simp only[Act.put,nzL])
 refine bJ (by as_aux_lemma=>kernel_rfl) ?_ _;have QG:=ae M4.1;have K4:=ae (K1.to M4.2);have QJ:=ae ((M4.2.blk _ _ _ _ QQ (by decide) (by decide) (by decide) fun h=>h).trans QQ);clear M4 RK QL AB S3 O3 G3 SQ K1 P th;generalize QM.setCell (J mb 3 Y) (Z (N (J g4 0 Y)) (L+1) r)=m at QG K4 QJ ⊢;have hwl4:w.heap.size<m.heap.size:=ai QJ.out;have A:m.cell? (J w.heap.size 0 Y)=N (U nm):=by simp[World.cell?,QJ.out]
 have k1:m.cell? (J w.heap.size 1 Y)=N (Z a (S.f1 tg).actN b):=by simp[World.cell?,QJ.out]
 have A5:=ae ((Qs m).alloc lr (T #[U nm,Q I 3,Q I 0,U ⟨#[]⟩,Z a (S.f1 tg).actN b,Z Y 0 0,Z Y 0 0,Q I 0] 127));have ph:w0.heap.size<=m.heap.size:=QG.lt
 have U5:Hid (EU w0 S (m.alloc (T #[U nm,Q I 3,Q I 0,U ⟨#[]⟩,Z a (S.f1 tg).actN b,Z Y 0 0,Z Y 0 0,Q I 0] 127)) m.heap.size nm tg G [] (Z Y 0 0) made V):=⟨⟨a,b,eL _ _,At⟩,ph,⟨rfl,.inl ⟨rfl,rfl⟩⟩,fun x hx=>by
  obtain⟨act,Fi,_⟩:=(QG.ents x hx).blk;have:=ai Fi
  omega,fun _ _ k y=>(by cases y),fun _ hl=>absurd hl nj⟩
 have M5:=ae (QG.below A5 lr);have Bk:Hid (ed S (making++[nm]) made 201):=by have h1:=fG (aT H2).1 (aT H2).2 H0 H1;have h2:=Fp.out;unfold ed at h2 ⊢;show _<=_;omega
 have DA:(m.alloc (T #[U nm,Q I 3,Q I 0,U ⟨#[]⟩,Z a (S.f1 tg).actN b,Z Y 0 0,Z Y 0 0,Q I 0] 127)).heap.size=m.heap.size+1:=by simp
 go_wp2_with fail;clear A k1;generalize m.alloc (T #[U nm,Q I 3,Q I 0,U ⟨#[]⟩,Z a (S.f1 tg).actN b,Z Y 0 0,Z Y 0 0,Q I 0] 127)=W5 at A5 U5 M5 DA ⊢;obtain⟨eb,fd⟩:∃ eb,eb=m.heap.size:=⟨_,rfl⟩
 rw[<-fd] at U5 ⊢;have HEB:=ae fd;have ur:w.heap.size<=eb:=by omega
 clear fd;refine(Bl CC n Fs made G V _ md W5 eb tg nm (by simp;omega) M5 (gH HP H0) Bk (aT H2).1 U5).mono ?_;intro e M q;obtain⟨R1,R⟩:∃ R1,R1=bO S (aL S n (making++[nm])) tg 201 made [] []:=⟨_,rfl⟩
 have HT:Hid (me S (n+1) making made nm tg=gF nm tg R1):=by rw[R];rfl
 rw[<-R] at q;have Fq:=ae R;clear R;have K5:Hid (KX w0.heap.size XN w W5):=K4.to (KX.of_below (X:=XN) A5 lr ph);rcases R1 with ⟨la,x⟩ | c | d
 ·obtain⟨rfl,G1,V1,mk1,Fo,v1,ex,ro,n6,n9,n7,bt⟩:=q
  have GD:=ae (fU CC.ok (aT H2).1 (cP CC.ok n (making++[nm])) _ _ _ _ _ _ (gH HP H0) (gn S made) rfl Fq.symm);have M6:=ae ex;have E6:=ae ro;have F6:=ae n6;have V6:=ae n9;have X6:=ae n7;have K6:Hid (KX w0.heap.size XN w M):=K5.trans bt (fun i hi h=>by have e2:i=eb:=h;omega);have hz6:W5.heap.size<=M.heap.size:=bt.below.size;have mv:(making++[nm]).length=L+1:=by rw[cM,p8,<-j.out]
  have QH:=ex.rmk;rw[mv] at QH;obtain⟨QN,g,cur7,rfl,W⟩:=QH.2.resolve_left (fun h=>by omega);have hcap7:L+1<=g:=W.2.2.1;have R6:=ae (ownsRow_pop (n:=L) (xs:=bq making) (last:=[U nm]) (by rw[bq,I4,Nat.mul_one];exact j.symm) (by simpa[bq] using QH));clear ex ro n6 n9 n7 bt W QH mv;obtain⟨hml6,-,-,-,p,-,mf⟩:=M6.box.facts;have DQ:=mf 3;clear mf;go_wp2_with fail;have hwr:IntKind.i64.wrap (L:Int)=(L:Int):=wrapM (by omega) (by omega);have hI0:(0:Int)<=(L:Int):=by omega
  have hI1:(L:Int)<=(g:Int):=by omega
  refine bm (fun V=>V.cell? (J mb 3 Y)=N (Z (N (J QN 0 Y)) (L+1) g)) 14 (by as_aux_lemma=>kernel_rfl) ?_;have l:Hid (M.drew.cell? (J mb 3 Y)=N (Z (N (J QN 0 Y)) (L+1) g)):=p
  iterate 10
   refine bw 0 (v:=?_) rfl rfl (by as_aux_lemma=>kernel_rfl) (fun _ _ _ h=>h) rfl ?_ l ?_;rotate_left
   ·(intro wz s0;go_simp)
    (try with_reducible rfl)
   (try simp only[Act.put,nzL])
  refine eK (i:=10) (v:=Q I (L:Int)) rfl (by as_aux_lemma=>kernel_rfl) (by as_aux_lemma=>kernel_rfl) (by as_aux_lemma=>kernel_rfl) (by as_aux_lemma=>kernel_rfl) (fun _ _ _ h=>h) rfl ?_ l ?_
  ·intro wz s0
   go_simp
  (try simp only[Act.put,nzL])
  refine eK (i:=11) (v:=Z (N (J QN 0 Y)) L g) rfl (by as_aux_lemma=>kernel_rfl) (by as_aux_lemma=>kernel_rfl) (by as_aux_lemma=>kernel_rfl) (by as_aux_lemma=>kernel_rfl) (fun _ _ _ h=>h) rfl ?_ l ?_
  ·intro wz s0
   go_simp
  (try simp only[Act.put,nzL])
  iterate 2
   refine df 12 rfl rfl (by as_aux_lemma=>kernel_rfl) (fun K f=>?_);go_simp;refine f _ _ (fun _=>l) ?_;clear f K
   (try simp only[Act.put,nzL])
  have M7:=ae (M6.mked (w':=M) (nk':=making.length) (ks':=bq making) (v:=Z (N (J QN 0 Y)) L g) (World.grownBy.refl _ _) (by rw[<-j.out];exact R6));refine ar (i:=14) rfl (by as_aux_lemma=>kernel_rfl) (fun K f=>?_);go_simp;refine f _ _ (fun h=>absurd rfl h) ?_;clear f K l p DQ
  (try simp only[Act.put])
  refine bJ (by as_aux_lemma=>kernel_rfl) ?_ _;have D7:Hid (Below (M.setCell (J mb 3 Y) (Z (N (J QN 0 Y)) L g)).heap.size (M.setCell (J mb 3 Y) (Z (N (J QN 0 Y)) L g)) (M.setCell (J mb 3 Y) (Z (N (J QN 0 Y)) L g)).drew):=br.drew;go_wp2_with fail;go_ret;rw[HT.out];have M8:=M7.1.below D7.out lr;have K8:=M7.2.to (KX.of_below (X:=XN) D7 lr M7.1.lt);obtain⟨g1,-,-,-,-,g6⟩:=GD.out;exact⟨la,making++[nm],G1,V1,_,Fo,v1,eb,rfl,.inr rfl,rfl,M8,E6.kx K8 (fun h=>h) (fun _ _ h=>h),rfl,(iP g1).2,(iP g1).1,g6,F6,ur,fun k y=>j5 (by omega) (V6 k y),X6.mono (by omega),K6.to K8⟩
 ·obtain⟨u,rfl,g1,g2⟩:=q
  go_wp2_with fail;rw[HT.out];exact⟨rfl,u,rfl,g1,K5.below.trans g2⟩
 ·obtain⟨rfl,g2⟩:=q
  go_wp2_with fail;rw[HT.out];exact⟨rfl,rfl,K5.below.trans g2⟩
end
end Go.Proofs.YtkdimgejdocbbaaGreatDoor.Vp
namespace Go.Proofs.YtkdimgejdocbbaaGreatDoor.Vp
open RowKit Go.Maps
theorem gN (g:Nat->ByteArray)(n:Nat)(t:ByteArray):aF g n t=(atI g n t).isSome:=by unfold aF atI;rw[IM,List.find?_isSome,J9]
theorem yX {g:Nat->ByteArray}{n i j:Nat}{t:ByteArray}(h:aE g n=QC)(k:atI g n t=N j)(hi:i<=n)(h1:∀ m,m<i->ay (g m) t=QC)(h2:∀ m,i<=m->m<n->ay (g m) t=D):i=j:=by have f:=iK h hi h1 h2;rw[gN,k,Option.isSome_some] at f;have b:=f.symm;rw[gM,j4] at b;have d:=aT k;exact asc_one h b.1 d.1 b.2 (by rw[d.2];simp)
section
variable {w0:E}{S:Spc}{a0 a1:Option Addr}{c0 c1 mb mp:Nat}{mk md:QB}{making:List ByteArray}{made:List Ent}{G:ByteArray->Nat}{V:ByteArray->QB}
theorem qq {w b:E}{s0 s1:QB}(h:MI w0 S mb mp s0 s1 w making making made G V mk md)(j:PG S making made){nm:ByteArray}(o:aK made nm=Y)(hb:Below w.heap.size w b)(d:Int)(g:d≠3)(tx:ByteArray):dC w0 S mb mp s0 s1 making made G V w nm (QD (.pointer (N (J b.heap.size 0 Y)))) (b.alloc (T #[U nm,Q I d,Q I 0,U tx,Z Y 0 0,Z Y 0 0,Z Y 0 0,Q I 0] 127)) (dP made ⟨nm,d,0,tx,0,[]⟩):=by
 have h1:=h.below hb lr;have f:=(Qs b).alloc lr (T #[U nm,Q I d,Q I 0,U tx,Z Y 0 0,Z Y 0 0,Z Y 0 0,Q I 0] 127);refine⟨made,making,G,V,mk,md,Z Y 0 0,b.heap.size,rfl,.inl rfl,rfl,h1.below f lr,⟨⟨Z Y 0 0,eL _ _,?_⟩,h1.lt,⟨rfl,.inl ⟨rfl,rfl⟩⟩⟩,rfl,dd o,j,fun l m=>absurd m nj,fun y n=>?_,hb.size,fun k g=>(by cases g),Ext.refl _ _ _ _,(KX.of_below (X:=XN) hb lr h.lt).to (KX.of_below f lr h1.lt)⟩
 ·rw[mF,a8 g]
 ·obtain⟨act,i,_⟩:=(h1.ents y n).blk
  have:=ai i;omega
theorem yY (C:Ctx w0 S a0 c0 a1 c1)(w:E)(nm:ByteArray)(i:Nat)(h:MI w0 S mb mp (Z a0 S.n0 c0) (Z a1 S.n1 c1) w making making made G V mk md)(q:PG S making made)(t:aK made nm=Y)(h2:atI (nm0 S.f0) S.n0 nm=N i):Calls Tryz.prog 214 #[.pointer (N (J mb 0 Y)),U nm] w fun e A=>dC w0 S mb mp (Z a0 S.n0 c0) (Z a1 S.n1 c1) making made G V w nm e A (dP made ⟨nm,1,0,(S.f0 i).text,0,[]⟩):=by
 obtain⟨f,m0,u,-⟩:=h.box.facts;have l:=ae h;have y:=ae q;have z:=ae t;have B:=ae h2;have g:=ae C;have o:aF (nm0 S.f0) S.n0 nm=QC:=by rw[gN,h2];rfl
 have p:i<S.n0:=(aT h2).1;have hsm:=C.ok.small;obtain⟨bs,os,rfl,d⟩:=C.src.resolve_left (by omega);have b:=ae d;clear h q t h2 C d;go_enter Tryz.func214,Tryz.ntmps214;go_wp2_with fail;refine(eA _ S.n0 c0 a1 S.n1 c1 S.f0 nm w (by omega) (g.src.below l.bel lr) g.ok.asc0).mono ?_;rintro e w1 ⟨j,rfl,r,s,n,m⟩;obtain rfl:j=i:=yX g.ok.asc0 B r s n;have x:=ae m;have k:=ae (l.below m lr);obtain⟨q0,q1⟩:=(b.below k.bel lr).2 j p;have hbs:=(b.below k.bel lr).1;clear m s n r m0 u f;obtain⟨f,m0,u,-⟩:=k.box.facts;rw[o];have hI:(j:Int)<S.n0:=by omega
 go_wp2_with fail;go_ret;exact qq l y z x 1 (by decide) _
theorem xx (C:Ctx w0 S a0 c0 a1 c1)(w:E)(nm:ByteArray)(h:MI w0 S mb mp (Z a0 S.n0 c0) (Z a1 S.n1 c1) w making making made G V mk md)(q:PG S making made)(t:aK made nm=Y)(h2:atI (nm0 S.f0) S.n0 nm=Y)(r:atI (nm1 S.f1) S.n1 nm=Y):Calls Tryz.prog 214 #[.pointer (N (J mb 0 Y)),U nm] w fun e x=>dC w0 S mb mp (Z a0 S.n0 c0) (Z a1 S.n1 c1) making made G V w nm e x (dP made ⟨nm,2,0,⟨#[]⟩,0,[]⟩):=by
 obtain⟨d,m0,n,-⟩:=h.box.facts;have k:=ae h;have z:=ae q;have y:=ae t;have f:=ae C;have s:aF (nm0 S.f0) S.n0 nm=D:=by rw[gN,h2];rfl
 have m:aF (nm1 S.f1) S.n1 nm=D:=by rw[gN,r];rfl
 have hsm:=C.ok.small;clear h q t h2 r C;go_enter Tryz.func214,Tryz.ntmps214;go_wp2_with fail;refine(eA _ S.n0 c0 a1 S.n1 c1 S.f0 nm w (by omega) (f.src.below k.bel lr) f.ok.asc0).mono ?_;rintro e u ⟨j,rfl,g,l,i,b⟩;have o:=ae b;have p:=ae (k.below b lr);clear b l i g m0 n d;obtain⟨d,m0,n,-⟩:=p.box.facts;rw[s];go_wp2_with fail;refine(fy a0 S.n0 c0 _ S.n1 c1 S.f1 nm u (by omega) (f.tgt.below p.bel lr) f.ok.asc1).mono ?_;rintro e w2 ⟨j2,rfl,g,l,i,b⟩;have A:=ae (o.trans (b.mono o.size));clear b l i g m0 n d;rw[m];go_wp2_with fail;go_ret;exact qq k z y A 2 (by decide) _
theorem yZ (C:Ctx w0 S a0 c0 a1 c1)(n:Nat)(HL:∀ m,n=m+1->ji w0 S mb mp (Z a0 S.n0 c0) (Z a1 S.n1 c1) m)(w:E)(nm:ByteArray)(tg:Nat)(bt:making.length+n=60)(h:MI w0 S mb mp (Z a0 S.n0 c0) (Z a1 S.n1 c1) w making making made G V mk md)(hp:PG S making made)(z:ed S making made 1)(hn:au nm=QC)(h0:aK made nm=Y)(h1:atL making nm=Y)(h2:atI (nm0 S.f0) S.n0 nm=Y)(B:atI (nm1 S.f1) S.n1 nm=N tg):Calls Tryz.prog 214 #[.pointer (N (J mb 0 Y)),U nm] w fun e i=>dC w0 S mb mp (Z a0 S.n0 c0) (Z a1 S.n1 c1) making made G V w nm e i (me S n making made nm tg):=by
 obtain⟨A,m0,QM,-⟩:=h.box.facts;have HM:=ae h;have QO:=ae C;have H3:=ae B;have ld:aF (nm0 S.f0) S.n0 nm=D:=by rw[gN,h2];rfl
 have ex:aF (nm1 S.f1) S.n1 nm=QC:=by rw[gN,B];rfl
 have QH:tg<S.n1:=(aT B).1;have fd:(S.f1 tg).name=nm:=(aT B).2;have hsm:=C.ok.small;obtain⟨M,os,rfl,QP⟩:=C.tgt.resolve_left (by omega);have g:=ae QP;have HX:Hid (∀ (l:E) (a:Option Addr) (t:Nat),Below w.heap.size w l->SlIns w0 a (S.f1 tg).actN (S.f1 tg).act->Calls Tryz.prog 241 #[.pointer (N (J mb 0 Y)),QE #[U nm,Z a (S.f1 tg).actN t]] l fun e i=>dC w0 S mb mp (Z a0 S.n0 c0) (Z (N (J M os Y)) S.n1 c1) making made G V w nm e i (me S n making made nm tg)):=by
  intro l a t hb y;have hw:∀ e i res,dC w0 S mb mp (Z a0 S.n0 c0) (Z (N (J M os Y)) S.n1 c1) making made G V l nm e i res->dC w0 S mb mp (Z a0 S.n0 c0) (Z (N (J M os Y)) S.n1 c1) making made G V w nm e i res:=by
   intro e i res r;have QJ:Below w0.heap.size w l:=hb.mono h.lt;rcases res with ⟨L,x⟩ | c | d
   ·obtain⟨s,mm,G',V',W,QK,v',eb,f,o,QN,q4,q5,q6,q7,q8,q9,la,n9,ph,n6,n7⟩:=r
    exact⟨s,mm,G',V',W,QK,v',eb,f,o,QN,q4,q5,q6,q7,q8,q9,la,j5 hb.size n9,fun k hk=>j5 hb.size (ph k hk),n6.mono hb.size,(KX.of_below (X:=XN) hb lr h.lt).to n7⟩
   ·obtain⟨u,f,o,QN⟩:=r;exact⟨u,f,o,QJ.trans QN⟩
   ·obtain⟨f,QN⟩:=r;exact⟨f,QJ.trans QN⟩
  cases n with
  | zero =>refine(ut l a _ t nm (h.below hb lr) (by omega)).mono ?_;rintro e i ⟨f,o⟩;exact hw _ _ _ ⟨f,o.mono (j5 h.lt hb.size)⟩
  | succ m =>exact(xw C m (HL m rfl) l a t tg nm bt (h.below hb lr) hp z hn h0 h1 B y).mono fun e i q=>hw _ _ _ q
 obtain⟨R,hR⟩:∃ R,R=me S n making made nm tg:=⟨_,rfl⟩
 rw[<-hR] at HX ⊢;clear h hp h0 h1 h2 B C QP z HL hn hR;go_enter Tryz.func214,Tryz.ntmps214;go_wp2_with fail;refine(eA _ S.n0 c0 _ S.n1 c1 S.f0 nm w (by omega) (QO.src.below HM.bel lr) QO.ok.asc0).mono ?_;rintro e w1 ⟨j,rfl,QL,O,K,QQ⟩;have B1:=ae QQ;have M1:=ae (HM.below QQ lr);clear QQ O K QL m0 QM A;obtain⟨A,m0,QM,-⟩:=M1.box.facts;rw[ld];go_wp2_with fail;refine(fy a0 S.n0 c0 _ S.n1 c1 S.f1 nm w1 (by omega) (QO.tgt.below M1.bel lr) QO.ok.asc1).mono ?_;rintro e l ⟨H,rfl,QL,O,K,QQ⟩;obtain rfl:H=tg:=yX QO.ok.asc1 H3 QL O K;have B2:=ae (B1.trans (QQ.mono B1.size));have P:=ae (HM.below B2 lr);clear QQ O K QL m0 QM A;obtain⟨A,m0,QM,-⟩:=P.box.facts;obtain⟨q0,aa,ca,f,-⟩:=(g.below P.bel lr).2 H QH;obtain⟨-,aa',ca',QG,y⟩:=g.2 H QH;have aq:=g.1;have e1:=(P.bel.cell (p:=(J M (os+H*2+1) Y)) aq).trans QG;rw[f] at e1;simp only[E2,CL,LR] at e1;obtain⟨rfl,rfl⟩:=e1;have mv:=ae y;have hbs:=(g.below P.bel lr).1;rw[fd] at q0;clear QG y;rw[ex];have hI:(H:Int)<S.n1:=by omega
 go_wp2_with fail;refine(HX l aa ca B2 mv).mono ?_;intro e w3 b;rcases R with ⟨L,x⟩ | c | d
 ·have n8:=ae b
  obtain⟨s,mm,G',V',W,QK,v',eb,-,-,rfl,-⟩:=b;go_wp2_with fail;go_ret;exact n8
 ·obtain⟨u,rfl,f,o⟩:=b
  go_wp2_with fail;exact⟨rfl,u,rfl,f,o⟩
 ·obtain⟨rfl,o⟩:=b
  go_wp2_with fail;exact⟨rfl,rfl,o⟩
end
section
variable {w0:E}{S:Spc}{a0 a1:Option Addr}{c0 c1 mb mp:Nat}{mk md:QB}{making:List ByteArray}{made:List Ent}{G:ByteArray->Nat}{V:ByteArray->QB}
theorem xy {s0 s1:QB}{w l:E}{nm:ByteArray}(t:w0.heap.size<=w.heap.size)(hb:Below w.heap.size w l):∀ e j res,dC w0 S mb mp s0 s1 making made G V l nm e j res->dC w0 S mb mp s0 s1 making made G V w nm e j res:=by
 intro e j res b;have i:Below w0.heap.size w l:=hb.mono t;rcases res with ⟨made',x⟩ | c | d
 ·obtain⟨h,B,M,L,s,n,H,C,f,m,g,QO,QP,z,QQ,A,QN,o,q,r,y,p⟩:=b
  exact⟨h,B,M,L,s,n,H,C,f,m,g,QO,QP,z,QQ,A,QN,o,j5 hb.size q,fun k K=>j5 hb.size (r k K),y.mono hb.size,(KX.of_below (X:=XN) hb lr t).to p⟩
 ·obtain⟨u,f,m,g⟩:=b;exact⟨u,f,m,i.trans g⟩
 ·obtain⟨f,g⟩:=b;exact⟨f,i.trans g⟩
theorem Bm (w:E)(nm:ByteArray)(R:Out Ent)(h:MI w0 S mb mp (Z a0 S.n0 c0) (Z a1 S.n1 c1) w making making made G V mk md)(hml60:making.length<=60)(hn:nm.size<=60)(h0:aK made nm=Y)(h1:atL making nm=Y)(j:∀ g x,R=.inl (g,x)->g.length<=60000)
  (HF:∀ W,Below w.heap.size w W->Calls Tryz.prog 214 #[.pointer (N (J mb 0 Y)),U nm] W fun e B=>dC w0 S mb mp (Z a0 S.n0 c0) (Z a1 S.n1 c1) making made G V w nm e B R) :
  Calls Tryz.prog 159 #[.pointer (N (J mb 0 Y)),U nm] w fun e B=>ts w0 S mb mp (Z a0 S.n0 c0) (Z a1 S.n1 c1) making made G V w e B R:=by
 obtain⟨i1,hi,ex,ph,qr⟩:=oN Bi;have HV:=ae (show(dw G making made nm.toList).getD (QE #[Q I 0,.pointer Y])=QE #[Q I 0,.pointer Y] by rw[gT h0,h1];rfl);have n9:=ae (show(dw G making made nm.toList).isSome=D by rw[gT h0,h1];rfl);have HM:=ae h;have n8:=ae HF;have mv:=ae j;obtain⟨hl,-,-,c2,-,-,-⟩:=h.box.facts;have M:nm.size<=maxLen:=by unfold maxLen;omega
 have hz:=nM;have B1:=ae ((Qs w).alloc lr (T #[Q I 0,.pointer Y] 274));clear h h0 h1 HF j;go_enter Tryz.func159,Tryz.ntmps159
 go_wp2_with (first
  | (at_lookup;refine iv _ rfl _ _ 202 rfl 274 Tryz.underlying202 (hz _) mp _ _ rfl HM.map nm rfl M _ HV D n9 ?_)
  | fail)
 clear c2;generalize w.alloc (T #[Q I 0,.pointer Y] 274)=W1 at B1 ⊢;refine(n8 W1 B1).mono ?_;intro e w1 i;rcases R with ⟨g,x⟩ | c | d
 ·obtain⟨b,mm,G1,V1,mk1,md1,v1,C,rfl,z,rfl,o,QO,QL,P,QN,has,QG,n7,QM,aq,K⟩:=i
  have fd:b.length<=60000:=by have:=mv.out _ _ rfl;simp at this;omega
  have hmml:mm.length<=making.length+1:=by rcases z with rfl | rfl<;>simp
  obtain⟨ap,cp,rfl⟩:=bX o.rmd;have M1:=ae o;have E1:=ae QO;have s:=ae QL;have la:=ae P;have P1:=ae QN;have ro:=ae has;have F1:=ae QG;have n6:=ae QM;have X1:=ae aq;have K1:=ae K;have MM:=ae z;obtain⟨l,t⟩:∃ l,l=b.length:=⟨_,rfl⟩
  have k:=ae t;obtain⟨O,-,-,m2,-,A,-⟩:=o.box.facts;rw[<-t] at A fd;clear o QO QL P QN has QG QM aq K z t
  go_wp2_with (first
   | (at_mapUpdate;refine xt _ rfl _ _ _ 202 rfl 274 Tryz.underlying202 mp _ _ rfl M1.map (by unfold maxLen;have:=k.out;omega) nm (QE #[Q I 0,.pointer (N (J C 0 Y))]) rfl rfl M ?_;intro QP QK QH;have QQ:=ae (M1.mapped QH QK);clear QK QH m2 A O;obtain⟨O,-,-,-,-,A,mf⟩:=QQ.1.box.facts;rw[<-k.out] at A;have AB:=ae ((Qs QP).alloc lr (T #[.pointer (N (J C 0 Y))] 124));have f:=ae (QQ.1.below AB lr);have RD:=ae (by have h:=f.rmd;rw[<-k.out] at h;exact h))
   | (at_builtin;refine CD _ rfl (.tmp 49) (.tmp 51) 117 rfl w0.heap.size 124 i1 (.pointer Y) 1 8 Tryz.underlying117 hi ex ph qr rfl (by decide) (Z ap l cp) l (jf G1 b) (by simp[Act.eval]) RD.out (J QP.heap.size 0 Y) 1 1 [.pointer (N (J C 0 Y))] (by simp[Act.eval]) rfl (yW QP _ _) (by simp[Value.oneCell']) (by unfold maxLen;omega) (by omega) f.lt ?_;intro v3 w3 m p bt;have O3:=ae m;have H:=ae p;obtain⟨g4,q,cur4,rfl,ld⟩:=m.2.resolve_left (fun h=>by omega);clear ld m p bt;have r:Hid (N mb≠(Value.slice ap l cp).ownBlock):=(fun e=>by obtain⟨_,_,cs,hc⟩:=af RD mb e.symm;exact absurd (ah f.box hc) (by decide));have s4:=(cq (a:=(J mb 4 Y)) (H.block mb (ai f.box) r)).trans f.box.facts.2.2.2.2.2.1;have f4:=(DN (a:=(J mb 4 Y)) (H.block mb (ai f.box) r)).trans (f.box.facts.2.2.2.2.2.2 4);have hml3:mb<w3.heap.size:=ll (ai f.box) H.size)
   | fail)
  go_ret;have h5:=f.mded (w':=w3) (np':=b.length+1) (ps':=jf G1 b++[.pointer (N (J C 0 Y))]) (v:=Z (N (J g4 0 Y)) (l+1) q) (by rw[<-k.out];exact H) (by rw[<-k.out];exact O3);have L:KX w0.heap.size XN w1 (w3.setCell (J mb 4 Y) (Z (N (J g4 0 Y)) (l+1) q)):=(QQ.2.to (KX.of_below (X:=XN) AB lr QQ.1.lt)).to h5.2;have QJ:aK b nm=Y:=JP.2 fun y hy=>by intro e2;exact la y hy (bytes_beq e2)
  have h6:=MIg.added (x:=x) h5.1 P1 QJ s MM (by omega) (E1.kx L (fun h=>h) (fun _ _ h=>h)) F1 ro;exact⟨_,_,_,_,(by rw[s.out,eN];rfl),h6,X1.trans (Dy (n:=w.heap.size) QJ s n7 n6) lr,K1.to L⟩
 ·obtain⟨u,rfl,q1,q2⟩:=i
  go_wp2_with fail;exact⟨rfl,u,rfl,q1,q2⟩
 ·obtain⟨rfl,q2⟩:=i
  go_wp2_with fail;exact⟨rfl,rfl,q2⟩
theorem Bn (C:Ctx w0 S a0 c0 a1 c1):∀ n,ji w0 S mb mp (Z a0 S.n0 c0) (Z a1 S.n1 c1) n:=by
 have k:∀ n,(∀ m,n=m+1->ji w0 S mb mp (Z a0 S.n0 c0) (Z a1 S.n1 c1) m)->ji w0 S mb mp (Z a0 S.n0 c0) (Z a1 S.n1 c1) n:=by
  intro n q making made G V mk md w nm p h l b y;have g:=mg y;have f:=gj S n making made nm;rw[jc] at f ⊢;unfold dm at f ⊢;cases h0:aK made nm with
  | some e =>refine(Bf w nm h g e h0).mono ?_;rintro r o ⟨rfl,hb⟩;exact⟨G,V,mk,md,rfl,h.below hb lr,Ext.refl _ _ _ _,KX.of_below hb lr h.lt⟩
  | none =>
   cases h1:atL making nm with
   | some i =>refine(us w nm h g (by omega) h0 i h1).mono ?_;rintro r o ⟨u,rfl,A,B⟩;exact⟨u,rfl,aI A h.lt,B.mono h.lt⟩
   | none =>
    rw[h0] at f;simp only[h1] at f;dsimp only;refine Bm w nm _ h (by omega) g h0 h1 (fun j x QQ=>?_) (fun W s=>?_)
    ·have:=f j x QQ
     unfold ed at b;unfold fq at this;omega
    ·refine Calls.mono ?_ (fun e o=>xy h.lt s e o _)
     have d:=h.below s lr;unfold d9;cases h2:atI (nm0 S.f0) S.n0 nm with
     | some i=>exact yY C W nm i d l h0 h2
     | none =>
      cases h3:atI (nm1 S.f1) S.n1 nm with
      | some t=>exact yZ C n q W nm t p d l b y h0 h1 h2 h3
      | none=>exact xx C W nm d l h0 h2 h3
 intro n;induction n with
 | zero=>exact k 0 fun m e=>by omega
 | succ n z=>exact k (n+1) fun m e=>by cases e;exact z
end
end Go.Proofs.YtkdimgejdocbbaaGreatDoor.Vp
