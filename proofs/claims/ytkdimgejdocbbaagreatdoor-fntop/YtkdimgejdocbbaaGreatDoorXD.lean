import Derived.Test.YtkdimgejdocbbaaGreatDoorXC
import Derived.WalkSmall
set_option maxRecDepth 1000000
set_option maxHeartbeats 8000000
open Go.Addr renaming mk->J
open Go.Value renaming slice->Y,string->U,int->N,agg->QE
open Option renaming none->Z,some->Q
open Go.Obj renaming cells->T
open Go.IntKind renaming i64->I
open Go renaming World->E,Value->QB,TypeId->QF
open Bool renaming false->D,true->QC
open Go.Ending renaming returned->QD
namespace Go.Proofs.YtkdimgejdocbbaaGreatDoor.Vp
open RowKit Ca Go.Maps
theorem tv {w:E}{i:Array Oper}{o:Oper}{a:Act}{K:Act->E->Prop}{QL:Exit->Act->E->Prop}{QP:Prop}(u:o.guard=Z)(m x v:Operand)(t:QF)(l:o.op=Op.mapUpdate t m x v)(e:QF)(r:Tryz.prog.underlying t=Q (.map 9 e))(b n:Nat)(G:List UInt8->Option QB)
  (C:a.eval m=.map (Q b)) (k:MapN w b n G) (A:n<maxLen) (g:ByteArray) (f:QB) (z:a.eval x=U g) (H:a.eval v=f) (q:g.size<=maxLen)
  (y:∀ h,MapN h b (n+1) (fun s=>if s=g.toList then Q f else G s)->w.grownBy h (Q b)->K (a.put o.dst undef) h) :
  if Region.wanted o (yielded i a.tmps)=QC then Oper.wp Tryz.prog o a w K QL else QP:=by
 have B:Region.wanted o (yielded i a.tmps)=QC:=by simp[Region.wanted,u]
 rw[eT B];obtain⟨QQ,p,QN⟩:=k;obtain⟨h,j,r1,QO⟩:=p.update px r A (JY Tryz.underlying9 q) (val:=f) (d:=.held f) (ps:=[]) rfl;unfold Oper.wp;simp[execOp,l,C,z,H,j,Result.andThen];refine y h ⟨_,r1,?_⟩ QO;have:=tk (x:=g.toList) (v:=f) p.isMap QN;rw[H7] at this ⊢;exact this
theorem yW (w:E)(v:QB)(t:QF):∀ j u,[v][j]?=Q u->(w.alloc (T #[v] t)).cell? (((J w.heap.size 0 Z):Addr).add j)=Q u:=by
 intro j u h;rw[addr_add];have b:j=0:=by
  rcases IW j 1 with d | d
  ·omega
  ·rw[IP (by simp;omega)] at h;cases h
 subst b;simp at h;subst h;simp
theorem wrapM {z:Int}(h0:0<=z)(h1:z<=1048576):IntKind.i64.wrap z=z:=by rw[p9];omega
def dC (w0:E)(S:Spc)(mb mp:Nat)(s0 s1:QB)(making:List ByteArray)(made:List Ent)(G:ByteArray->Nat)(V:ByteArray->QB)(w:E)(nm:ByteArray)(e:Ending)(f:E):Out Ent->Prop
 | .inl (made',x)=>∃ b i h j m o n g,made'=b++[x]/\(i=making∨i=making++[nm])/\e=QD (.pointer (Q (J g 0 Z)))/\MI w0 S mb mp s0 s1 f i making b h j m o/\EntAt w0 S h f g n x/\x.name=nm/\(∀ y∈b,y.name≠nm)/\PG S making b/\(∀ l∈x.looks,l.ask=QC->∃ y∈b,y.name=l.name)/\(∀ y∈b,h y.name≠g)/\w.heap.size<=g/\(∀ k,n.ownBlock=Q k->w.heap.size<=k)/\Ext w.heap.size made b G h V j/\KX w0.heap.size XN w f
 | .inr (.inl c)=>∃ v,e=.panicked [{ v:=.iface 269 (QE #[v]),recovered:=D }]/\f.ownsRow w0.heap.size 9 1 v c.length (bq c)/\Below w0.heap.size w f
 | .inr (.inr d)=>e=.panicked [{ v:=.iface 271 (QE #[U d]),recovered:=D }]/\Below w0.heap.size w f
section
variable {w0:E}{S:Spc}{a0 a1:Option Addr}{c0 c1 mb mp:Nat}{mk md:QB}{making:List ByteArray}{made:List Ent}{G:ByteArray->Nat}{V:ByteArray->QB}
theorem ut (w:E)(a:Option Addr)(cnt d:Nat)(nm:ByteArray)(h:MI w0 S mb mp (Y a0 S.n0 c0) (Y a1 S.n1 c1) w making making made G V mk md)(b:making.length=60):Calls Tryz.prog 241 #[.pointer (Q (J mb 0 Z)),QE #[U nm,Y a cnt d]] w fun e j=>e=.panicked [{ v:=.iface 271 (QE #[U nm]),recovered:=D }]/\Below w.heap.size w j:=by
 obtain⟨ak,ck,rfl⟩:=bX h.rmk;have f:=ae ((Qs w).alloc lr (T #[U nm,Y a cnt d] 108));have g:=ae (h.below f lr);obtain⟨hml,-,-,-,i,-,-⟩:=g.box.facts;have k0:(w.alloc (T #[U nm,Y a cnt d] 108)).cell? (J w.heap.size 0 Z)=Q (U nm):=by simp
 rw[b] at i;clear h g b;go_enter Tryz.func241,Tryz.ntmps241;go_wp2_with fail;exact⟨rfl,rfl,f⟩
theorem xw (C:Ctx w0 S a0 c0 a1 c1)(n:Nat)(HL:ji w0 S mb mp (Y a0 S.n0 c0) (Y a1 S.n1 c1) n)(w:E)(a:Option Addr)(b tg:Nat)(nm:ByteArray)(hlen:making.length+(n+1)=60)(h:MI w0 S mb mp (Y a0 S.n0 c0) (Y a1 S.n1 c1) w making making made G V mk md)(hp:PG S making made)(z:ed S making made 1)(hn:au nm=QC)(h0:aK made nm=Z)(h1:atL making nm=Z)(h2:atI (nm1 S.f1) S.n1 nm=Q tg)(mv:SlIns w0 a (S.f1 tg).actN (S.f1 tg).act):Calls Tryz.prog 241 #[.pointer (Q (J mb 0 Z)),QE #[U nm,Y a (S.f1 tg).actN b]] w fun e w'=>dC w0 S mb mp (Y a0 S.n0 c0) (Y a1 S.n1 c1) making made G V w nm e w' (me S (n+1) making made nm tg):=by
 obtain⟨i1,hi,Fq,Fj,Fi⟩:=oN Bh;obtain⟨QO,H,rfl⟩:=bX h.rmk;have At:w0.heap.size<=w.heap.size:=h.lt;have Fl:nm.size<=maxLen:=by have:=mg hn;unfold maxLen;omega
 have A0:=ae ((Qs w).alloc lr (T #[U nm,Y a (S.f1 tg).actN b] 108));have kt:Hid ((w.alloc (T #[U nm,Y a (S.f1 tg).actN b] 108)).heap[w.heap.size]?=Q (T #[U nm,Y a (S.f1 tg).actN b] 108 (0,0))):=eL _ _;have M0:=ae (h.below A0 lr);have CC:=ae C;have Bk:=ae HL;have HP:=ae hp;have HN:=ae hn;have H0:=ae h0;have H1:=ae h1;have H2:=ae h2;have Fh:=ae mv;have hmade:made.length<=50000:=by unfold ed at z;omega
 have Fp:=ae z;clear h C HL hp hn h0 h1 h2 mv z;obtain⟨L,hL⟩:∃ L,L=making.length:=⟨_,rfl⟩
 have j:=ae hL;have hL60:L<60:=by omega
 obtain⟨QQ,-,-,m2,m,-,-⟩:=M0.box.facts;obtain⟨-,t,-⟩:=(show(w.alloc (T #[U nm,Y a (S.f1 tg).actN b] 108)).cell? (J w.heap.size 0 Z)=Q (U nm)/\(w.alloc (T #[U nm,Y a (S.f1 tg).actN b] 108)).cell? (J w.heap.size 0 Z)=Q (U nm)/\True from⟨by simp,by simp,trivial⟩)
 rw[<-hL] at m;clear hL;have hL60i:((L:Int) == 60)=D:=by simp;omega
 go_enter Tryz.func241,Tryz.ntmps241;go_wp2_with fail;generalize w.alloc (T #[U nm,Y a (S.f1 tg).actN b] 108)=W0 at A0 kt M0 m2 m QQ t ⊢;refine wp_region_held_drew (S:=fun V=>V.cell? (J mb 2 Z)=Q (.map (Q mp))/\V.cell? (J mb 3 Z)=Q (Y QO L H)/\V.cell? (J w.heap.size 0 Z)=Q (U nm)) (by as_aux_lemma=>kernel_rfl) ⟨m2,m,t⟩ (fun hS=>?_);have p:=ae hS;clear hS
 iterate 12
  refine bS 0 (v:=?_) rfl rfl (by as_aux_lemma=>kernel_rfl) (fun _ _ _ h=>h) rfl ?_ p ?_;rotate_left
  ·(intro wz fd;obtain⟨s0,s1,s2⟩:=fd;go_simp)
   (try with_reducible rfl)
  (try simp only[Act.put,nzL])
 have MD:=ae (M0.below (eI _ W0).drew lr);refine bN (i:=12) rfl (by as_aux_lemma=>kernel_rfl) (fun K f=>?_);refine tv rfl _ _ _ 202 rfl 274 Tryz.underlying202 mp (2*made.length+making.length) (dw G making made) rfl MD.map (by unfold maxLen;omega) nm (QE #[N I (L:Int),.pointer Z]) rfl rfl Fl ?_;intro o n7 ro;have QG:=ae (MD.mapped (cnt':=2*made.length+(making++[nm]).length) (F':=dw G (making++[nm]) made) ro ((n7.congr fun s=>by rw[<-xv H0.out H1.out s,<-j.out]).mono (by simp;omega)));clear n7 ro;have QN:=ae QG.1;have K1:Hid (KX w0.heap.size XN w o):=(KX.of_below (X:=XN) (A0.trans ((eI _ W0).drew.mono A0.size)) lr At).to QG.2;have B:Hid (o.heap[w.heap.size]?=Q (T #[U nm,Y a (S.f1 tg).actN b] 108 (0,0))):=(QG.2.blk _ _ _ _ kt (by decide) (by decide) (by decide) fun h=>h).trans kt;clear p m2 m t QQ QG;obtain⟨QQ,-,-,m2,m,-,-⟩:=QN.box.facts;rw[<-j.out] at m;have Fk:w.heap.size<o.heap.size:=ai B.out;have t:o.cell? (J w.heap.size 0 Z)=Q (U nm):=by simp[World.cell?,B.out]
 refine f _ _ ⟨m2,m,t⟩ ?_;clear f K
 (try simp only[Act.put])
 refine wpAnyH_done (by as_aux_lemma=>kernel_rfl) ?_ _;clear MD M0 kt;go_wp2_with fail;have SQ:Hid (∀ V:E,(∀ k,k<o.heap.size->Q k≠(Value.slice QO L H).ownBlock->V.heap[k]?=o.heap[k]?)->V.cell? (J mb 3 Z)=Q (Y QO L H)/\V.cell? (J w.heap.size 0 Z)=Q (U nm)):=fun V hV=>by
  have QP:Q mb≠(Value.slice QO L H).ownBlock:=fun e=>by obtain⟨_,_,cs,hc⟩:=af QN.rmk mb (by rw[<-j.out];exact e.symm);exact absurd (ah QN.box hc) (by decide)
  have th:Q w.heap.size≠(Value.slice QO L H).ownBlock:=fun e=>by obtain⟨_,_,cs,hc⟩:=af QN.rmk w.heap.size (by rw[<-j.out];exact e.symm);exact absurd (ah B hc) (by decide)
  exact⟨(cq (a:=(J mb 3 Z)) (hV mb QQ QP)).trans m,(cq (a:=(J w.heap.size 0 Z)) (hV w.heap.size Fk th)).trans t⟩
 have p:=ae (SQ o.drew (fun k A _=>rfl));refine bm (fun V=>V.cell? (J mb 3 Z)=Q (Y QO L H)/\V.cell? (J w.heap.size 0 Z)=Q (U nm)) 11 (by as_aux_lemma=>kernel_rfl) ?_;clear m2 m t
 iterate 7
  first | refine bw 0 (v:=?_) rfl rfl (by as_aux_lemma=>kernel_rfl) (fun _ _ _ h=>h) rfl ?_ p ?_ | refine bw 5 (v:=?_) rfl rfl (by as_aux_lemma=>kernel_rfl) (fun _ _ _ h=>h) rfl ?_ p ?_
  rotate_left
  ·(intro wz fd;obtain⟨s0,s1⟩:=fd;go_simp)
   (try with_reducible rfl)
  (try simp only[Act.put,nzL])
 refine ar (i:=7) rfl (by as_aux_lemma=>kernel_rfl) (fun K f=>?_);go_simp;have AB:=ae (((Qs o).drew).alloc lr (T #[U nm] 9));have O:=ae (QN.below AB lr);refine f _ _ (fun _=>SQ _ (fun k A _=>AB.block k A)) ?_;clear f K
 (try simp only[Act.put,nzL])
 have RK:=ae (by have h:=O.rmk;rw[<-j.out] at h;exact h);refine ar (i:=8) rfl (by as_aux_lemma=>kernel_rfl) (fun K f=>?_);refine bA rfl (.tmp 32) (.tmp 35) 39 rfl w0.heap.size 9 i1 (U ⟨#[]⟩) 1 16 Tryz.underlying39 hi Fq Fj Fi rfl (by decide) (Y QO L H) L (bq making) (by simp[Act.eval]) RK.out (J o.heap.size 0 Z) 1 1 [U nm] (by simp[Act.eval]) rfl (yW o.drew _ _) (by simp[Value.oneCell']) (by unfold maxLen;omega) (by omega) O.lt ?_;intro v' QL M y DQ;have O3:=ae M;have G3:=ae y;have S3:=ae (SQ QL (fun k A QP=>(y.block k (ll A (by simp<;>omega)) QP).trans (AB.block k A)));obtain⟨g4,r,cur4,rfl,R⟩:=M.2.resolve_left (fun h=>by omega);clear R;clear M y DQ;refine f _ _ (fun _=>S3) ?_;clear f K p
 (try simp only[Act.put,nzL])
 iterate 2
  refine df 9 rfl rfl (by as_aux_lemma=>kernel_rfl) (fun K f=>?_);go_simp;refine f _ _ (fun _=>S3) ?_;clear f K
  (try simp only[Act.put,nzL])
 have M4:Hid (MI w0 S mb mp (Y a0 S.n0 c0) (Y a1 S.n1 c1) (QL.setCell (J mb 3 Z) (Y (Q (J g4 0 Z)) (L+1) r)) (making++[nm]) (making++[nm]) made G V (Y (Q (J g4 0 Z)) (L+1) r) md/\KX w0.heap.size XN o (QL.setCell (J mb 3 Z) (Y (Q (J g4 0 Z)) (L+1) r))):=by have h4:=O.mked (w':=QL) (nk':=(making++[nm]).length) (ks':=bq (making++[nm])) (v:=Y (Q (J g4 0 Z)) (L+1) r) (by rw[<-j.out];exact G3) (by rw[cM,p7,<-j.out];simpa[bq] using O3.out);exact⟨h4.1,(KX.of_below (X:=XN) AB lr QN.lt).to h4.2⟩
 have s3:=S3.1;have ur:mb<QL.heap.size:=ll QQ (j5 (by simp<;>omega) G3.size);have Fr:QL.frozen? (J mb 3 Z)=D:=by
  have QP:Q mb≠(Value.slice QO L H).ownBlock:=fun e=>by obtain⟨_,_,cs,hc⟩:=af RK mb e.symm;exact absurd (ah O.box hc) (by decide)
  exact(DC (a:=(J mb 3 Z)) (G3.block mb (ai O.box) QP)).trans (O.box.facts.2.2.2.2.2.2 3)
 refine ar (i:=11) rfl (by as_aux_lemma=>kernel_rfl) (fun K f=>?_);go_simp;refine f _ _ (fun h=>absurd rfl h) ?_;clear f K s3 Fr
 (try simp only[Act.put,nzL])
 refine bJ (by as_aux_lemma=>kernel_rfl) ?_ _;have QH:=ae M4.1;have K4:=ae (K1.to M4.2);have W:=ae ((M4.2.blk _ _ _ _ B (by decide) (by decide) (by decide) fun h=>h).trans B);clear M4 RK O AB S3 O3 G3 SQ K1 QN ur;generalize QL.setCell (J mb 3 Z) (Y (Q (J g4 0 Z)) (L+1) r)=l at QH K4 W ⊢;have hwl4:w.heap.size<l.heap.size:=ai W.out;have t:l.cell? (J w.heap.size 0 Z)=Q (U nm):=by simp[World.cell?,W.out]
 have k1:l.cell? (J w.heap.size 1 Z)=Q (Y a (S.f1 tg).actN b):=by simp[World.cell?,W.out]
 have A5:=ae ((Qs l).alloc lr (T #[U nm,N I 3,N I 0,U ⟨#[]⟩,Y a (S.f1 tg).actN b,Y Z 0 0,Y Z 0 0,N I 0] 127));have n9:w0.heap.size<=l.heap.size:=QH.lt
 have U5:Hid (EU w0 S (l.alloc (T #[U nm,N I 3,N I 0,U ⟨#[]⟩,Y a (S.f1 tg).actN b,Y Z 0 0,Y Z 0 0,N I 0] 127)) l.heap.size nm tg G [] (Y Z 0 0) made V):=⟨⟨a,b,eL _ _,Fh⟩,n9,⟨rfl,.inl ⟨rfl,rfl⟩⟩,fun x hx=>by
  obtain⟨act,Fm,_⟩:=(QH.ents x hx).blk;have:=ai Fm
  omega,fun _ _ k A=>(by cases A),fun _ hl=>absurd hl nj⟩
 have M5:=ae (QH.below A5 lr);have Fo:Hid (ed S (making++[nm]) made 201):=by have h1:=fG (aT H2).1 (aT H2).2 H0 H1;have h2:=Fp.out;unfold ed at h2 ⊢;show _<=_;omega
 have Fs:(l.alloc (T #[U nm,N I 3,N I 0,U ⟨#[]⟩,Y a (S.f1 tg).actN b,Y Z 0 0,Y Z 0 0,N I 0] 127)).heap.size=l.heap.size+1:=by simp
 go_wp2_with fail;clear t k1;generalize l.alloc (T #[U nm,N I 3,N I 0,U ⟨#[]⟩,Y a (S.f1 tg).actN b,Y Z 0 0,Y Z 0 0,N I 0] 127)=W5 at A5 U5 M5 Fs ⊢;obtain⟨eb,ex⟩:∃ eb,eb=l.heap.size:=⟨_,rfl⟩
 rw[<-ex] at U5 ⊢;have HEB:=ae ex;have sm:w.heap.size<=eb:=by omega
 clear ex;refine(Bl CC n Bk made G V _ md W5 eb tg nm (by simp;omega) M5 (gH HP H0) Fo (aT H2).1 U5).mono ?_;intro e P q;obtain⟨R1,QJ⟩:∃ R1,R1=bO S (aL S n (making++[nm])) tg 201 made [] []:=⟨_,rfl⟩
 have HT:Hid (me S (n+1) making made nm tg=gF nm tg R1):=by rw[QJ];rfl
 rw[<-QJ] at q;have DA:=ae QJ;clear QJ;have K5:Hid (KX w0.heap.size XN w W5):=K4.to (KX.of_below (X:=XN) A5 lr n9);rcases R1 with ⟨la,x⟩ | c | d
 ·obtain⟨rfl,G1,V1,mk1,DE,v1,aq,ph,qr,n6,ld,bt⟩:=q
  have GD:=ae (fU CC.ok (aT H2).1 (cP CC.ok n (making++[nm])) _ _ _ _ _ _ (gH HP H0) (gn S made) rfl DA.symm);have M6:=ae aq;have E6:=ae ph;have F6:=ae qr;have V6:=ae n6;have X6:=ae ld;have K6:Hid (KX w0.heap.size XN w P):=K5.trans bt (fun i hi h=>by have e2:i=eb:=h;omega);have hz6:W5.heap.size<=P.heap.size:=bt.below.size;have n8:(making++[nm]).length=L+1:=by rw[cM,p7,<-j.out]
  have QK:=aq.rmk;rw[n8] at QK;obtain⟨QM,g,cur7,rfl,R⟩:=QK.2.resolve_left (fun h=>by omega);have hcap7:L+1<=g:=R.2.2.1;have R6:=ae (ownsRow_pop (n:=L) (xs:=bq making) (last:=[U nm]) (by rw[bq,IZ,Nat.mul_one];exact j.symm) (by simpa[bq] using QK));clear aq ph qr n6 ld bt R QK n8;obtain⟨hml6,-,-,-,m,-,mf⟩:=M6.box.facts;have Fd:=mf 3;clear mf;go_wp2_with fail;have hwr:IntKind.i64.wrap (L:Int)=(L:Int):=wrapM (by omega) (by omega);have hI0:(0:Int)<=(L:Int):=by omega
  have hI1:(L:Int)<=(g:Int):=by omega
  refine bm (fun V=>V.cell? (J mb 3 Z)=Q (Y (Q (J QM 0 Z)) (L+1) g)) 14 (by as_aux_lemma=>kernel_rfl) ?_;have p:Hid (P.drew.cell? (J mb 3 Z)=Q (Y (Q (J QM 0 Z)) (L+1) g)):=m
  iterate 10
   refine bw 0 (v:=?_) rfl rfl (by as_aux_lemma=>kernel_rfl) (fun _ _ _ h=>h) rfl ?_ p ?_;rotate_left
   ·(intro wz s0;go_simp)
    (try with_reducible rfl)
   (try simp only[Act.put,nzL])
  refine eK (i:=10) (v:=N I (L:Int)) rfl (by as_aux_lemma=>kernel_rfl) (by as_aux_lemma=>kernel_rfl) (by as_aux_lemma=>kernel_rfl) (by as_aux_lemma=>kernel_rfl) (fun _ _ _ h=>h) rfl ?_ p ?_
  ·intro wz s0
   go_simp
  (try simp only[Act.put,nzL])
  refine eK (i:=11) (v:=Y (Q (J QM 0 Z)) L g) rfl (by as_aux_lemma=>kernel_rfl) (by as_aux_lemma=>kernel_rfl) (by as_aux_lemma=>kernel_rfl) (by as_aux_lemma=>kernel_rfl) (fun _ _ _ h=>h) rfl ?_ p ?_
  ·intro wz s0
   go_simp
  (try simp only[Act.put,nzL])
  iterate 2
   refine df 12 rfl rfl (by as_aux_lemma=>kernel_rfl) (fun K f=>?_);go_simp;refine f _ _ (fun _=>p) ?_;clear f K
   (try simp only[Act.put,nzL])
  have M7:=ae (M6.mked (w':=P) (nk':=making.length) (ks':=bq making) (v:=Y (Q (J QM 0 Z)) L g) (World.grownBy.refl _ _) (by rw[<-j.out];exact R6));refine ar (i:=14) rfl (by as_aux_lemma=>kernel_rfl) (fun K f=>?_);go_simp;refine f _ _ (fun h=>absurd rfl h) ?_;clear f K p m Fd
  (try simp only[Act.put])
  refine bJ (by as_aux_lemma=>kernel_rfl) ?_ _;have D7:Hid (Below (P.setCell (J mb 3 Z) (Y (Q (J QM 0 Z)) L g)).heap.size (P.setCell (J mb 3 Z) (Y (Q (J QM 0 Z)) L g)) (P.setCell (J mb 3 Z) (Y (Q (J QM 0 Z)) L g)).drew):=br.drew;go_wp2_with fail;go_ret;rw[HT.out];have M8:=M7.1.below D7.out lr;have K8:=M7.2.to (KX.of_below (X:=XN) D7 lr M7.1.lt);obtain⟨g1,-,-,-,-,g6⟩:=GD.out;exact⟨la,making++[nm],G1,V1,_,DE,v1,eb,rfl,.inr rfl,rfl,M8,E6.kx K8 (fun h=>h) (fun _ _ h=>h),rfl,(iP g1).2,(iP g1).1,g6,F6,sm,fun k A=>j5 (by omega) (V6 k A),X6.mono (by omega),K6.to K8⟩
 ·obtain⟨u,rfl,g1,g2⟩:=q
  go_wp2_with fail;rw[HT.out];exact⟨rfl,u,rfl,g1,K5.below.trans g2⟩
 ·obtain⟨rfl,g2⟩:=q
  go_wp2_with fail;rw[HT.out];exact⟨rfl,rfl,K5.below.trans g2⟩
end
end Go.Proofs.YtkdimgejdocbbaaGreatDoor.Vp
namespace Go.Proofs.YtkdimgejdocbbaaGreatDoor.Vp
open RowKit Go.Maps
theorem gN (g:Nat->ByteArray)(n:Nat)(t:ByteArray):aF g n t=(atI g n t).isSome:=by unfold aF atI;rw[IL,List.find?_isSome,J6]
theorem yX {g:Nat->ByteArray}{n i j:Nat}{t:ByteArray}(h:aE g n=QC)(f:atI g n t=Q j)(hi:i<=n)(h1:∀ m,m<i->ay (g m) t=QC)(h2:∀ m,i<=m->m<n->ay (g m) t=D):i=j:=by have d:=iK h hi h1 h2;rw[gN,f,Option.isSome_some] at d;have b:=d.symm;rw[gM,j4] at b;have k:=aT f;exact asc_one h b.1 k.1 b.2 (by rw[k.2];simp)
section
variable {w0:E}{S:Spc}{a0 a1:Option Addr}{c0 c1 mb mp:Nat}{mk md:QB}{making:List ByteArray}{made:List Ent}{G:ByteArray->Nat}{V:ByteArray->QB}
theorem qq {w b:E}{s0 s1:QB}(h:MI w0 S mb mp s0 s1 w making making made G V mk md)(n:PG S making made){nm:ByteArray}(m:aK made nm=Z)(hb:Below w.heap.size w b)(d:Int)(g:d≠3)(tx:ByteArray):dC w0 S mb mp s0 s1 making made G V w nm (QD (.pointer (Q (J b.heap.size 0 Z)))) (b.alloc (T #[U nm,N I d,N I 0,U tx,Y Z 0 0,Y Z 0 0,Y Z 0 0,N I 0] 127)) (dP made ⟨nm,d,0,tx,0,[]⟩):=by
 have h1:=h.below hb lr;have f:=(Qs b).alloc lr (T #[U nm,N I d,N I 0,U tx,Y Z 0 0,Y Z 0 0,Y Z 0 0,N I 0] 127);refine⟨made,making,G,V,mk,md,Y Z 0 0,b.heap.size,rfl,.inl rfl,rfl,h1.below f lr,⟨⟨Y Z 0 0,eL _ _,?_⟩,h1.lt,⟨rfl,.inl ⟨rfl,rfl⟩⟩⟩,rfl,dd m,n,fun l j=>absurd j nj,fun y o=>?_,hb.size,fun k g=>(by cases g),Ext.refl _ _ _ _,(KX.of_below (X:=XN) hb lr h.lt).to (KX.of_below f lr h1.lt)⟩
 ·rw[mF,a8 g]
 ·obtain⟨act,i,_⟩:=(h1.ents y o).blk
  have:=ai i;omega
theorem yY (C:Ctx w0 S a0 c0 a1 c1)(w:E)(nm:ByteArray)(i:Nat)(h:MI w0 S mb mp (Y a0 S.n0 c0) (Y a1 S.n1 c1) w making making made G V mk md)(p:PG S making made)(u:aK made nm=Z)(h2:atI (nm0 S.f0) S.n0 nm=Q i):Calls Tryz.prog 214 #[.pointer (Q (J mb 0 Z)),U nm] w fun e y=>dC w0 S mb mp (Y a0 S.n0 c0) (Y a1 S.n1 c1) making made G V w nm e y (dP made ⟨nm,1,0,(S.f0 i).text,0,[]⟩):=by
 obtain⟨f,m0,s,-⟩:=h.box.facts;have m:=ae h;have x:=ae p;have B:=ae u;have z:=ae h2;have l:=ae C;have q:aF (nm0 S.f0) S.n0 nm=QC:=by rw[gN,h2];rfl
 have r:i<S.n0:=(aT h2).1;have hsm:=C.ok.small;obtain⟨bs,os,rfl,b⟩:=C.src.resolve_left (by omega);have d:=ae b;clear h p u h2 C b;go_enter Tryz.func214,Tryz.ntmps214;go_wp2_with fail;refine(eA _ S.n0 c0 a1 S.n1 c1 S.f0 nm w (by omega) (l.src.below m.bel lr) l.ok.asc0).mono ?_;rintro e w1 ⟨j,rfl,n,o,t,g⟩;obtain rfl:j=i:=yX l.ok.asc0 z n o t;have A:=ae g;have k:=ae (m.below g lr);obtain⟨q0,q1⟩:=(d.below k.bel lr).2 j r;have hbs:=(d.below k.bel lr).1;clear g o t n m0 s f;obtain⟨f,m0,s,-⟩:=k.box.facts;rw[q];have hI:(j:Int)<S.n0:=by omega
 go_wp2_with fail;go_ret;exact qq m x B A 1 (by decide) _
theorem xx (C:Ctx w0 S a0 c0 a1 c1)(w:E)(nm:ByteArray)(h:MI w0 S mb mp (Y a0 S.n0 c0) (Y a1 S.n1 c1) w making making made G V mk md)(s:PG S making made)(t:aK made nm=Z)(h2:atI (nm0 S.f0) S.n0 nm=Z)(o:atI (nm1 S.f1) S.n1 nm=Z):Calls Tryz.prog 214 #[.pointer (Q (J mb 0 Z)),U nm] w fun e y=>dC w0 S mb mp (Y a0 S.n0 c0) (Y a1 S.n1 c1) making made G V w nm e y (dP made ⟨nm,2,0,⟨#[]⟩,0,[]⟩):=by
 obtain⟨d,m0,m,-⟩:=h.box.facts;have l:=ae h;have x:=ae s;have z:=ae t;have f:=ae C;have q:aF (nm0 S.f0) S.n0 nm=D:=by rw[gN,h2];rfl
 have k:aF (nm1 S.f1) S.n1 nm=D:=by rw[gN,o];rfl
 have hsm:=C.ok.small;clear h s t h2 o C;go_enter Tryz.func214,Tryz.ntmps214;go_wp2_with fail;refine(eA _ S.n0 c0 a1 S.n1 c1 S.f0 nm w (by omega) (f.src.below l.bel lr) f.ok.asc0).mono ?_;rintro e A ⟨j,rfl,i,n,g,b⟩;have r:=ae b;have p:=ae (l.below b lr);clear b n g i m0 m d;obtain⟨d,m0,m,-⟩:=p.box.facts;rw[q];go_wp2_with fail;refine(fy a0 S.n0 c0 _ S.n1 c1 S.f1 nm A (by omega) (f.tgt.below p.bel lr) f.ok.asc1).mono ?_;rintro e w2 ⟨j2,rfl,i,n,g,b⟩;have u:=ae (r.trans (b.mono r.size));clear b n g i m0 m d;rw[k];go_wp2_with fail;go_ret;exact qq l x z u 2 (by decide) _
theorem yZ (C:Ctx w0 S a0 c0 a1 c1)(n:Nat)(HL:∀ m,n=m+1->ji w0 S mb mp (Y a0 S.n0 c0) (Y a1 S.n1 c1) m)(w:E)(nm:ByteArray)(tg:Nat)(ex:making.length+n=60)(h:MI w0 S mb mp (Y a0 S.n0 c0) (Y a1 S.n1 c1) w making making made G V mk md)(hp:PG S making made)(A:ed S making made 1)(hn:au nm=QC)(h0:aK made nm=Z)(h1:atL making nm=Z)(h2:atI (nm0 S.f0) S.n0 nm=Z)(QQ:atI (nm1 S.f1) S.n1 nm=Q tg):Calls Tryz.prog 214 #[.pointer (Q (J mb 0 Z)),U nm] w fun e g=>dC w0 S mb mp (Y a0 S.n0 c0) (Y a1 S.n1 c1) making made G V w nm e g (me S n making made nm tg):=by
 obtain⟨y,m0,O,-⟩:=h.box.facts;have HM:=ae h;have QP:=ae C;have H3:=ae QQ;have n7:aF (nm0 S.f0) S.n0 nm=D:=by rw[gN,h2];rfl
 have bt:aF (nm1 S.f1) S.n1 nm=QC:=by rw[gN,QQ];rfl
 have QJ:tg<S.n1:=(aT QQ).1;have n8:(S.f1 tg).name=nm:=(aT QQ).2;have hsm:=C.ok.small;obtain⟨M,os,rfl,H⟩:=C.tgt.resolve_left (by omega);have o:=ae H;have HX:Hid (∀ (i:E) (a:Option Addr) (s:Nat),Below w.heap.size w i->SlIns w0 a (S.f1 tg).actN (S.f1 tg).act->Calls Tryz.prog 241 #[.pointer (Q (J mb 0 Z)),QE #[U nm,Y a (S.f1 tg).actN s]] i fun e g=>dC w0 S mb mp (Y a0 S.n0 c0) (Y (Q (J M os Z)) S.n1 c1) making made G V w nm e g (me S n making made nm tg)):=by
  intro i a s hb t;have hw:∀ e g res,dC w0 S mb mp (Y a0 S.n0 c0) (Y (Q (J M os Z)) S.n1 c1) making made G V i nm e g res->dC w0 S mb mp (Y a0 S.n0 c0) (Y (Q (J M os Z)) S.n1 c1) making made G V w nm e g res:=by
   intro e g res r;have QH:Below w0.heap.size w i:=hb.mono h.lt;rcases res with ⟨QM,x⟩ | c | d
   ·obtain⟨z,mm,G',V',QG,W,v',eb,f,l,QN,q4,q5,q6,q7,q8,q9,ph,la,fd,n6,n9⟩:=r
    exact⟨z,mm,G',V',QG,W,v',eb,f,l,QN,q4,q5,q6,q7,q8,q9,ph,j5 hb.size la,fun k hk=>j5 hb.size (fd k hk),n6.mono hb.size,(KX.of_below (X:=XN) hb lr h.lt).to n9⟩
   ·obtain⟨u,f,l,QN⟩:=r;exact⟨u,f,l,QH.trans QN⟩
   ·obtain⟨f,QN⟩:=r;exact⟨f,QH.trans QN⟩
  cases n with
  | zero =>refine(ut i a _ s nm (h.below hb lr) (by omega)).mono ?_;rintro e g ⟨f,l⟩;exact hw _ _ _ ⟨f,l.mono (j5 h.lt hb.size)⟩
  | succ m =>exact(xw C m (HL m rfl) i a s tg nm ex (h.below hb lr) hp A hn h0 h1 QQ t).mono fun e g q=>hw _ _ _ q
 obtain⟨R,hR⟩:∃ R,R=me S n making made nm tg:=⟨_,rfl⟩
 rw[<-hR] at HX ⊢;clear h hp h0 h1 h2 QQ C H A HL hn hR;go_enter Tryz.func214,Tryz.ntmps214;go_wp2_with fail;refine(eA _ S.n0 c0 _ S.n1 c1 S.f0 nm w (by omega) (QP.src.below HM.bel lr) QP.ok.asc0).mono ?_;rintro e w1 ⟨j,rfl,K,L,P,B⟩;have B1:=ae B;have M1:=ae (HM.below B lr);clear B L P K m0 O y;obtain⟨y,m0,O,-⟩:=M1.box.facts;rw[n7];go_wp2_with fail;refine(fy a0 S.n0 c0 _ S.n1 c1 S.f1 nm w1 (by omega) (QP.tgt.below M1.bel lr) QP.ok.asc1).mono ?_;rintro e i ⟨QO,rfl,K,L,P,B⟩;obtain rfl:QO=tg:=yX QP.ok.asc1 H3 K L P;have B2:=ae (B1.trans (B.mono B1.size));have QL:=ae (HM.below B2 lr);clear B L P K m0 O y;obtain⟨y,m0,O,-⟩:=QL.box.facts;obtain⟨q0,aa,ca,f,-⟩:=(o.below QL.bel lr).2 QO QJ;obtain⟨-,aa',ca',QK,t⟩:=o.2 QO QJ;have aq:=o.1;have e1:=(QL.bel.cell (p:=(J M (os+QO*2+1) Z)) aq).trans QK;rw[f] at e1;simp only[EQ,CN,LN] at e1;obtain⟨rfl,rfl⟩:=e1;have ld:=ae t;have hbs:=(o.below QL.bel lr).1;rw[n8] at q0;clear QK t;rw[bt];have hI:(QO:Int)<S.n1:=by omega
 go_wp2_with fail;refine(HX i aa ca B2 ld).mono ?_;intro e w3 b;rcases R with ⟨QM,x⟩ | c | d
 ·have mv:=ae b
  obtain⟨z,mm,G',V',QG,W,v',eb,-,-,rfl,-⟩:=b;go_wp2_with fail;go_ret;exact mv
 ·obtain⟨u,rfl,f,l⟩:=b
  go_wp2_with fail;exact⟨rfl,u,rfl,f,l⟩
 ·obtain⟨rfl,l⟩:=b
  go_wp2_with fail;exact⟨rfl,rfl,l⟩
end
section
variable {w0:E}{S:Spc}{a0 a1:Option Addr}{c0 c1 mb mp:Nat}{mk md:QB}{making:List ByteArray}{made:List Ent}{G:ByteArray->Nat}{V:ByteArray->QB}
theorem xy {s0 s1:QB}{w j:E}{nm:ByteArray}(o:w0.heap.size<=w.heap.size)(hb:Below w.heap.size w j):∀ e m res,dC w0 S mb mp s0 s1 making made G V j nm e m res->dC w0 S mb mp s0 s1 making made G V w nm e m res:=by
 intro e m res b;have i:Below w0.heap.size w j:=hb.mono o;rcases res with ⟨made',x⟩ | c | d
 ·obtain⟨h,L,QP,H,t,q,QN,B,f,l,g,QQ,K,QO,M,C,A,s,p,n,y,r⟩:=b
  exact⟨h,L,QP,H,t,q,QN,B,f,l,g,QQ,K,QO,M,C,A,s,j5 hb.size p,fun k z=>j5 hb.size (n k z),y.mono hb.size,(KX.of_below (X:=XN) hb lr o).to r⟩
 ·obtain⟨u,f,l,g⟩:=b;exact⟨u,f,l,i.trans g⟩
 ·obtain⟨f,g⟩:=b;exact⟨f,i.trans g⟩
theorem Bm (w:E)(nm:ByteArray)(R:Out Ent)(h:MI w0 S mb mp (Y a0 S.n0 c0) (Y a1 S.n1 c1) w making making made G V mk md)(hml60:making.length<=60)(hn:nm.size<=60)(h0:aK made nm=Z)(h1:atL making nm=Z)(k:∀ i x,R=.inl (i,x)->i.length<=60000)
  (HF:∀ W,Below w.heap.size w W->Calls Tryz.prog 214 #[.pointer (Q (J mb 0 Z)),U nm] W fun e QQ=>dC w0 S mb mp (Y a0 S.n0 c0) (Y a1 S.n1 c1) making made G V w nm e QQ R) :
  Calls Tryz.prog 159 #[.pointer (Q (J mb 0 Z)),U nm] w fun e QQ=>ts w0 S mb mp (Y a0 S.n0 c0) (Y a1 S.n1 c1) making made G V w e QQ R:=by
 obtain⟨i1,hi,ph,qr,la⟩:=oN Bi;have HV:=ae (show(dw G making made nm.toList).getD (QE #[N I 0,.pointer Z])=QE #[N I 0,.pointer Z] by rw[gT h0,h1];rfl);have n9:=ae (show(dw G making made nm.toList).isSome=D by rw[gT h0,h1];rfl);have HM:=ae h;have ex:=ae HF;have fd:=ae k;obtain⟨hl,-,-,c2,-,-,-⟩:=h.box.facts;have M:nm.size<=maxLen:=by unfold maxLen;omega
 have hz:=nM;have B1:=ae ((Qs w).alloc lr (T #[N I 0,.pointer Z] 274));clear h h0 h1 HF k;go_enter Tryz.func159,Tryz.ntmps159
 go_wp2_with (first
  | (at_lookup;refine iv _ rfl _ _ 202 rfl 274 Tryz.underlying202 (hz _) mp _ _ rfl HM.map nm rfl M _ HV D n9 ?_)
  | fail)
 clear c2;generalize w.alloc (T #[N I 0,.pointer Z] 274)=W1 at B1 ⊢;refine(ex W1 B1).mono ?_;intro e w1 g;rcases R with ⟨i,x⟩ | c | d
 ·obtain⟨b,mm,G1,V1,mk1,md1,v1,B,rfl,t,rfl,p,O,P,L,QJ,has,QL,n8,QN,QK,QO⟩:=g
  have n6:b.length<=60000:=by have:=fd.out _ _ rfl;simp at this;omega
  have hmml:mm.length<=making.length+1:=by rcases t with rfl | rfl<;>simp
  obtain⟨ap,cp,rfl⟩:=bX p.rmd;have M1:=ae p;have E1:=ae O;have s:=ae P;have ld:=ae L;have P1:=ae QJ;have n7:=ae has;have F1:=ae QL;have mv:=ae QN;have X1:=ae QK;have K1:=ae QO;have MM:=ae t;obtain⟨l,z⟩:∃ l,l=b.length:=⟨_,rfl⟩
  have j:=ae z;obtain⟨QH,-,-,m2,-,A,-⟩:=p.box.facts;rw[<-z] at A n6;clear p O P L QJ has QL QN QK QO t z
  go_wp2_with (first
   | (at_mapUpdate;refine xt _ rfl _ _ _ 202 rfl 274 Tryz.underlying202 mp _ _ rfl M1.map (by unfold maxLen;have:=j.out;omega) nm (QE #[N I 0,.pointer (Q (J B 0 Z))]) rfl rfl M ?_;intro QP K QG;have H:=ae (M1.mapped QG K);clear K QG m2 A QH;obtain⟨QH,-,-,-,-,A,mf⟩:=H.1.box.facts;rw[<-j.out] at A;have AB:=ae ((Qs QP).alloc lr (T #[.pointer (Q (J B 0 Z))] 124));have f:=ae (H.1.below AB lr);have RD:=ae (by have h:=f.rmd;rw[<-j.out] at h;exact h))
   | (at_builtin;refine CL _ rfl (.tmp 49) (.tmp 51) 117 rfl w0.heap.size 124 i1 (.pointer Z) 1 8 Tryz.underlying117 hi ph qr la rfl (by decide) (Y ap l cp) l (jf G1 b) (by simp[Act.eval]) RD.out (J QP.heap.size 0 Z) 1 1 [.pointer (Q (J B 0 Z))] (by simp[Act.eval]) rfl (yW QP _ _) (by simp[Value.oneCell']) (by unfold maxLen;omega) (by omega) f.lt ?_;intro v3 w3 m o bt;have O3:=ae m;have C:=ae o;obtain⟨g4,q,cur4,rfl,ro⟩:=m.2.resolve_left (fun h=>by omega);clear ro m o bt;have r:Hid (Q mb≠(Value.slice ap l cp).ownBlock):=(fun e=>by obtain⟨_,_,cs,hc⟩:=af RD mb e.symm;exact absurd (ah f.box hc) (by decide));have s4:=(cq (a:=(J mb 4 Z)) (C.block mb (ai f.box) r)).trans f.box.facts.2.2.2.2.2.1;have f4:=(DC (a:=(J mb 4 Z)) (C.block mb (ai f.box) r)).trans (f.box.facts.2.2.2.2.2.2 4);have hml3:mb<w3.heap.size:=ll (ai f.box) C.size)
   | fail)
  go_ret;have h5:=f.mded (w':=w3) (np':=b.length+1) (ps':=jf G1 b++[.pointer (Q (J B 0 Z))]) (v:=Y (Q (J g4 0 Z)) (l+1) q) (by rw[<-j.out];exact C) (by rw[<-j.out];exact O3);have aq:KX w0.heap.size XN w1 (w3.setCell (J mb 4 Z) (Y (Q (J g4 0 Z)) (l+1) q)):=(H.2.to (KX.of_below (X:=XN) AB lr H.1.lt)).to h5.2;have QM:aK b nm=Z:=JO.2 fun y hy=>by intro e2;exact ld y hy (bytes_beq e2)
  have h6:=MIg.added (x:=x) h5.1 P1 QM s MM (by omega) (E1.kx aq (fun h=>h) (fun _ _ h=>h)) F1 n7;exact⟨_,_,_,_,(by rw[s.out,eN];rfl),h6,X1.trans (Dy (n:=w.heap.size) QM s n8 mv) lr,K1.to aq⟩
 ·obtain⟨u,rfl,q1,q2⟩:=g
  go_wp2_with fail;exact⟨rfl,u,rfl,q1,q2⟩
 ·obtain⟨rfl,q2⟩:=g
  go_wp2_with fail;exact⟨rfl,rfl,q2⟩
theorem Bn (C:Ctx w0 S a0 c0 a1 c1):∀ n,ji w0 S mb mp (Y a0 S.n0 c0) (Y a1 S.n1 c1) n:=by
 have k:∀ n,(∀ m,n=m+1->ji w0 S mb mp (Y a0 S.n0 c0) (Y a1 S.n1 c1) m)->ji w0 S mb mp (Y a0 S.n0 c0) (Y a1 S.n1 c1) n:=by
  intro n l making made G V mk md w nm o h q b y;have g:=mg y;have d:=gj S n making made nm;rw[jc] at d ⊢;unfold dm at d ⊢;cases h0:aK made nm with
  | some e =>refine(Bf w nm h g e h0).mono ?_;rintro r p ⟨rfl,hb⟩;exact⟨G,V,mk,md,rfl,h.below hb lr,Ext.refl _ _ _ _,KX.of_below hb lr h.lt⟩
  | none =>
   cases h1:atL making nm with
   | some i =>refine(us w nm h g (by omega) h0 i h1).mono ?_;rintro r p ⟨u,rfl,z,QQ⟩;exact⟨u,rfl,aI z h.lt,QQ.mono h.lt⟩
   | none =>
    rw[h0] at d;simp only[h1] at d;dsimp only;refine Bm w nm _ h (by omega) g h0 h1 (fun j x A=>?_) (fun W s=>?_)
    ·have:=d j x A
     unfold ed at b;unfold fq at this;omega
    ·refine Calls.mono ?_ (fun e p=>xy h.lt s e p _)
     have f:=h.below s lr;unfold d9;cases h2:atI (nm0 S.f0) S.n0 nm with
     | some i=>exact yY C W nm i f q h0 h2
     | none =>
      cases h3:atI (nm1 S.f1) S.n1 nm with
      | some t=>exact yZ C n l W nm t o f q b y h0 h1 h2 h3
      | none=>exact xx C W nm f q h0 h2 h3
 intro n;induction n with
 | zero=>exact k 0 fun m e=>by omega
 | succ n B=>exact k (n+1) fun m e=>by cases e;exact B
end
end Go.Proofs.YtkdimgejdocbbaaGreatDoor.Vp
