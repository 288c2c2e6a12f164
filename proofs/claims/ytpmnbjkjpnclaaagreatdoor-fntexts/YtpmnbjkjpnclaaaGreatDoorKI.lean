import Derived.Test.YtpmnbjkjpnclaaaGreatDoorKH
import Derived.WalkSmall
set_option maxRecDepth 1000000
set_option maxHeartbeats 8000000
open Go renaming Addr.mk->N,Value.slice->Y,Value.string->U,Value.int->Q,Value.agg->ZG,Obj.cells->J,IntKind.i64->I,World->M,Value->ZB,TypeId->ZH,Ending.returned->ZD,World.heap->z,Proofs.Tryz.prog->Pg
open Option renaming none->Z,some->T
open Bool renaming false->ZA,true->ZF
open Array renaming size->A
namespace Go.Proofs.YtpmnbjkjpnclaaaGreatDoor.Vp
open Tryz RowKit Ca Go.Maps
variable {w:M}{s0 s1:ZB}{nm:ByteArray}
theorem tm{i:Array Oper}{o:Oper}{a:Act}{K:Act->M->Prop}{ZN:Exit->Act->M->Prop}{E:Prop}(ZP:o.guard=Z)(m x v:Operand)(t:ZH)(p:o.op=Op.mapUpdate t m x v)(e:ZH)(ZR:Pg.underlying t=T (.map 9 e))(b n:Nat)(G:List UInt8->Option ZB)
  (C:a.eval m=.map (T b)) (j:MapN w b n G) (hn:n<maxLen) (g:ByteArray) (f:ZB) (ZO:a.eval x=U g) (H:a.eval v=f) (r:g.size<=maxLen)
  (B:∀h,MapN h b (n+1) (λs=>if s=g.toList then T f else G s)->w.grownBy h (T b)->K (a.put o.dst undef) h) :
  if Region.wanted o (yielded i a.tmps)=ZF then Oper.wp Pg o a w K ZN else E:=by
 have y:Region.wanted o (yielded i a.tmps)=ZF:=by simp[Region.wanted,ZP]
 rw[nL y];obtain⟨D,q,ZS⟩:=j;obtain⟨h,l,r1,u⟩:=q.update pz ZR hn (LP IN r) (val:=f) (d:=.held f) (ps:=[]) rfl;unfold Oper.wp;simp[execOp,p,C,ZO,H,l,Result.andThen];refine B h ⟨_,r1,?_⟩ u;have:=sZ (x:=g.toList) (v:=f) q.isMap ZS;rw[JO] at this ⊢;exact this
theorem yO (w:M)(v:ZB)(t:ZH):∀j u,[v][j]?=T u->(w.alloc (J #[v] t)).cell? (((N (A (z w)) 0 Z):Addr).add j)=T u:=by
 intro j u h;rw[addr_add];have f:j=0:=by
  rcases J7 j 1 with b|b;{omega};{rw[JR (by simp;omega)] at h;cases h}
 subst f;simp at h;subst h;simp
theorem wrapM{ZS:Int}(h0:0<=ZS)(h1:ZS<=1048576):IntKind.i64.wrap ZS=ZS:=by rw[AI];omega
def dn (w0:M)(S:Spc)(mb mp:Nat)(s0 s1:ZB)(making:List ByteArray)(made:List Ent)(G:ByteArray->Nat)(V:ByteArray->ZB)(w:M)(nm:ByteArray)(e:Ending)(f:M):Out Ent->Prop
 |.inl (made',x)=>∃b i g n o m j h,made'=b++[x]/\(i=making∨i=making++[nm])/\e=ZD (.pointer (T (N h 0 Z)))/\MI w0 S mb mp s0 s1 f i making b g n o m/\EntAt w0 S g f h j x/\x.e=nm/\(∀y∈b,y.e≠nm)/\PG S making b/\(∀l∈x.looks,l.ask=ZF->∃y∈b,y.e=l.e)/\(∀y∈b,g y.e≠h)/\(A (z w))<=h/\(∀k,j.ownBlock=T k->A (z w)<=k)/\Ext (A (z w)) made b G g V n/\KX (A (z w0)) XN w f
 |.inr (.inl c)=>∃v,e=.panicked [{ v:=.iface 235 (ZG #[v]),recovered:=ZA }]/\f.ownsRow (A (z w0)) 9 1 v c.length (bo c)/\Below (A (z w0)) w f
 |.inr (.inr d)=>e=.panicked [{ v:=.iface 237 (ZG #[U d]),recovered:=ZA }]/\Below (A (z w0)) w f
section
variable {w0:M}{S:Spc}{a0 a1:Option Addr}{c0 c1 mb mp:Nat}{mk md:ZB}{making:List ByteArray}{made:List Ent}{G:ByteArray->Nat}{V:ByteArray->ZB}
theorem uB (w:M)(a:Option Addr)(cnt cap:Nat)(nm:ByteArray)(h:MI w0 S mb mp (Y a0 S.n0 c0) (Y a1 S.n1 c1) w making making made G V mk md)(b:making.length=60):Calls Pg 221 #[.pointer (T (N mb 0 Z)),ZG #[U nm,Y a cnt cap]] w λe j=>e=.panicked [{ v:=.iface 237 (ZG #[U nm]),recovered:=ZA }]/\Below (A (z w)) w j:=by
 obtain⟨ak,ck,rfl⟩:=ct h.rmk;have f:=ae ((BS w).alloc ly (J #[U nm,Y a cnt cap] 146));have g:=ae (h.aa f ly);obtain⟨hml,-,-,-,i,-,-⟩:=g.ab.K;have k0:(w.alloc (J #[U nm,Y a cnt cap] 146)).cell? (N (A (z w)) 0 Z)=T (U nm):=by simp
 rw[b] at i;clear h g b;go_enter func221,ntmps221;go_wp2_with fail;exact⟨rfl,rfl,f⟩
theorem xm (C:Ctx w0 S a0 c0 a1 c1)(n:Nat)(HL:iR w0 S mb mp (Y a0 S.n0 c0) (Y a1 S.n1 c1) n)(w:M)(a:Option Addr)(cap tg:Nat)(nm:ByteArray)(hlen:making.length+(n+1)=60)(h:MI w0 S mb mp (Y a0 S.n0 c0) (Y a1 S.n1 c1) w making making made G V mk md)(hp:PG S making made)(t:dP S making made 1)(hn:aA nm=ZF)(h0:aZ made nm=Z)(h1:atL making nm=Z)(h2:atI (nm1 S.f1) S.n1 nm=T tg)(Bk:SlIns w0 a (S.f1 tg).m (S.f1 tg).D):Calls Pg 221 #[.pointer (T (N mb 0 Z)),ZG #[U nm,Y a (S.f1 tg).m cap]] w λe w'=>dn w0 S mb mp (Y a0 S.n0 c0) (Y a1 S.n1 c1) making made G V w nm e w' (nh S (n+1) making made nm tg):=by
 obtain⟨i1,hi,FZ,F0,DS⟩:=oJ AY;obtain⟨B,ZR,rfl⟩:=ct h.rmk;have FV:A (z w0)<=A (z w):=h.lt;have FQ:nm.size<=maxLen:=by have:=lF hn;unfold maxLen;omega
 have A0:=ae ((BS w).alloc ly (J #[U nm,Y a (S.f1 tg).m cap] 146));have kt:Hid ((w.alloc (J #[U nm,Y a (S.f1 tg).m cap] 146)).heap[A (z w)]?=T (J #[U nm,Y a (S.f1 tg).m cap] 146 (0,0))):=gM _ _;have M0:=ae (h.aa A0 ly);have CC:=ae C;have FP:=ae HL;have HP:=ae hp;have HN:=ae hn;have H0:=ae h0;have H1:=ae h1;have H2:=ae h2;have Fk:=ae Bk;have hmade:made.length<=50000:=by unfold dP at t;omega
 have Fm:=ae t;clear h C HL hp hn h0 h1 h2 Bk t;obtain⟨L,hL⟩:∃L,L=making.length:=⟨_,rfl⟩
 have g:=ae hL;have hL60:L<60:=by omega
 obtain⟨D,-,-,m2,m,-,-⟩:=M0.ab.K;obtain⟨-,y,-⟩:=(show(w.alloc (J #[U nm,Y a (S.f1 tg).m cap] 146)).cell? (N (A (z w)) 0 Z)=T (U nm)/\(w.alloc (J #[U nm,Y a (S.f1 tg).m cap] 146)).cell? (N (A (z w)) 0 Z)=T (U nm)/\True from⟨by simp,by simp,trivial⟩)
 rw[<-hL] at m;clear hL;have hL60i:((L:Int) == 60)=ZA:=by simp;omega
 go_enter func221,ntmps221;go_wp2_with fail;generalize World.alloc w _=W0 at A0 kt M0 m2 m D y ⊢;refine wp_region_held_drew (S:=λV=>V.cell? (N mb 2 Z)=T (.map (T mp))/\V.cell? (N mb 3 Z)=T (Y B L ZR)/\V.cell? (N (A (z w)) 0 Z)=T (U nm)) (by kernel_rfl) ⟨m2,m,y⟩ λhS=>?_;have l:=ae hS;clear hS;iterate 12
  refine aR 0 (v:=?_) rfl rfl (by kernel_rfl) (λ_ _ _ h=>h) rfl ?_ l ?_;rotate_left
  ·(rintro wz ⟨s0,s1,s2⟩;go_simp)
   (try with_reducible rfl)
  (try simp only[Act.put,nzL])
 have MD:=ae (M0.aa (cM _ W0).drew ly);refine aI (i:=12) rfl (by kernel_rfl) λK b=>?_;refine tm rfl _ _ _ 169 rfl 240 NM mp (2*made.length+making.length) (de G making made) rfl MD.map (by unfold maxLen;omega) nm (ZG #[Q I (L:Int),.pointer Z]) rfl rfl FQ ?_;intro j qr At;have ZK:=ae (MD.mapped (cnt':=2*made.length+(making++[nm]).length) (F':=de G (making++[nm]) made) At ((qr.congr λs=>by rw[<-xj H0.out H1.out s,<-g.out]).mono (by simp;omega)));clear qr At;have O:=ae ZK.1;have K1:Hid (KX (A (z w0)) XN w j):=(KX.q (X:=XN) (A0.trans ((cM _ W0).drew.mono A0.size)) ly FV).to ZK.2;have E:Hid (j.heap[A (z w)]?=T (J #[U nm,Y a (S.f1 tg).m cap] 146 (0,0))):=(ZK.2.ad _ _ _ _ kt (by decide) (by decide) (by decide) λh=>h).trans kt;clear l m2 m y D ZK;obtain⟨D,-,-,m2,m,-,-⟩:=O.ab.K;rw[<-g.out] at m;have Fd:A (z w)<A (z j):=ag E.out;have y:j.cell? (N (A (z w)) 0 Z)=T (U nm):=by simp[World.cell?,E.out]
 refine b _ _ ⟨m2,m,y⟩ ?_;clear b K
 (try simp only[Act.put])
 refine wpAnyH_done (by kernel_rfl) ?_ _;clear MD M0 kt;go_wp2_with fail;have SQ:Hid (∀V:M,(∀k,k<A (z j)->T k≠(Value.slice B L ZR).ownBlock->V.heap[k]?=j.heap[k]?)->V.cell? (N mb 3 Z)=T (Y B L ZR)/\V.cell? (N (A (z w)) 0 Z)=T (U nm)):=λV hV=>by
  have ZS:T mb≠(Value.slice B L ZR).ownBlock:=λe=>by obtain⟨_,_,cs,hc⟩:=af O.rmk mb (by rw[<-g.out];exact e.symm);exact absurd (ah O.ab hc) (by decide)
  have CD:T (A (z w))≠(Value.slice B L ZR).ownBlock:=λe=>by obtain⟨_,_,cs,hc⟩:=af O.rmk (A (z w)) (by rw[<-g.out];exact e.symm);exact absurd (ah E hc) (by decide)
  exact⟨(cq (a:=(N mb 3 Z)) (hV mb D ZS)).trans m,(cq (a:=(N (A (z w)) 0 Z)) (hV (A (z w)) Fd CD)).trans y⟩
 have l:=ae (SQ j.drew (λk q _=>rfl));refine aD (λV=>V.cell? (N mb 3 Z)=T (Y B L ZR)/\V.cell? (N (A (z w)) 0 Z)=T (U nm)) 11 (by kernel_rfl) ?_;clear m2 m y;iterate 7
  first|refine aH 0 (v:=?_) rfl rfl (by kernel_rfl) (λ_ _ _ h=>h) rfl ?_ l ?_|refine aH 5 (v:=?_) rfl rfl (by kernel_rfl) (λ_ _ _ h=>h) rfl ?_ l ?_
  rotate_left
  ·(rintro wz ⟨s0,s1⟩;go_simp)
   (try with_reducible rfl)
  (try simp only[Act.put,nzL])
 refine ai (i:=7) rfl (by kernel_rfl) λK b=>?_;go_simp;have AB:=ae (((BS j).drew).alloc ly (J #[U nm] 9));have ZM:=ae (O.aa AB ly);refine b _ _ (λ_=>SQ _ (λk q _=>AB.block k q)) ?_;clear b K
 (try simp only[Act.put,nzL])
 have RK:=ae (by have h:=ZM.rmk;rw[<-g.out] at h;exact h);refine ai (i:=8) rfl (by kernel_rfl) λK b=>?_;refine aW rfl (.tmp 32) (.tmp 35) 30 rfl (A (z w0)) 9 i1 (U ⟨#[]⟩) 1 16 JD hi FZ F0 DS rfl (by decide) (Y B L ZR) L (bo making) (by simp[Act.eval]) RK.out (N (A (z j)) 0 Z) 1 1 [U nm] (by simp[Act.eval]) rfl (yO j.drew _ _) (by simp[Value.oneCell']) (by unfold maxLen;omega) (by omega) ZM.lt ?_;intro v' ZN R r FU;have O3:=ae R;have G3:=ae r;have S3:=ae (SQ ZN (λk q ZS=>(r.block k (lj q (by simp<;>omega)) ZS).trans (AB.block k q)));obtain⟨g4,p,cur4,rfl,bt⟩:=R.2.resolve_left (λh=>by omega);clear bt;clear R r FU;refine b _ _ (λ_=>S3) ?_;clear b K l
 (try simp only[Act.put,nzL])
 iterate 2
  refine bH 9 rfl rfl (by kernel_rfl) λK b=>?_;go_simp;refine b _ _ (λ_=>S3) ?_;clear b K
  (try simp only[Act.put,nzL])
 have M4:Hid (MI w0 S mb mp (Y a0 S.n0 c0) (Y a1 S.n1 c1) (ZN.setCell (N mb 3 Z) (Y (T (N g4 0 Z)) (L+1) p)) (making++[nm]) (making++[nm]) made G V (Y (T (N g4 0 Z)) (L+1) p) md/\KX (A (z w0)) XN j (ZN.setCell (N mb 3 Z) (Y (T (N g4 0 Z)) (L+1) p))):=by have h4:=ZM.mked (w':=ZN) (nk':=(making++[nm]).length) (ks':=bo (making++[nm])) (v:=Y (T (N g4 0 Z)) (L+1) p) (by rw[<-g.out];exact G3) (by rw[eL,D0,<-g.out];simpa[bo] using O3.out);exact⟨h4.1,(KX.q (X:=XN) AB ly O.lt).to h4.2⟩
 have s3:=S3.1;have DQ:mb<A (z ZN):=lj D (nD (by simp<;>omega) G3.size);have FM:ZN.frozen? (N mb 3 Z)=ZA:=by
  have ZS:T mb≠(Value.slice B L ZR).ownBlock:=λe=>by obtain⟨_,_,cs,hc⟩:=af RK mb e.symm;exact absurd (ah ZM.ab hc) (by decide)
  exact(JK (a:=(N mb 3 Z)) (G3.block mb (ag ZM.ab) ZS)).trans (ZM.ab.K.2.2.2.2.2.2 3)
 refine ai (i:=11) rfl (by kernel_rfl) λK b=>?_;go_simp;refine b _ _ (λh=>absurd rfl h) ?_;clear b K s3 FM
 (try simp only[Act.put,nzL])
 refine aT (by kernel_rfl) ?_ _;have ZL:=ae M4.1;have K4:=ae (K1.to M4.2);have aq:=ae ((M4.2.ad _ _ _ _ E (by decide) (by decide) (by decide) λh=>h).trans E);clear M4 RK ZM AB S3 O3 G3 SQ K1 O DQ;generalize World.setCell ZN _ _=H at ZL K4 aq ⊢;have hwl4:A (z w)<A (z H):=ag aq.out;have y:H.cell? (N (A (z w)) 0 Z)=T (U nm):=by simp[World.cell?,aq.out]
 have k1:H.cell? (N (A (z w)) 1 Z)=T (Y a (S.f1 tg).m cap):=by simp[World.cell?,aq.out]
 obtain⟨W5,ZO⟩:∃W:M,H.alloc (J #[U nm,Q I 3,Q I 0,U ⟨#[]⟩,Y a (S.f1 tg).m cap,Y Z 0 0,Y Z 0 0,Q I 0] 176)=W:=⟨_,rfl⟩
 obtain⟨A5,-,hz5⟩:=nb1 ZO;have ZQ:=ae ZO;clear ZO;have ur:A (z w0)<=A (z H):=ZL.lt
 have U5:Hid (EU w0 S W5 (A (z H)) nm tg G [] (Y Z 0 0) made V):=by rw[<-ZQ.out];exact⟨⟨a,cap,gM _ _,Fk⟩,ur,⟨rfl,.inl ⟨rfl,rfl⟩⟩,λx hx=>by
  obtain⟨act,FW,_⟩:=(ZL.ao x hx).ad;have:=ag FW
  omega,λ_ _ k q=>(by cases q),λ_ hl=>absurd hl nj⟩
 have M5:=ae (ZL.aa A5 ly);have FX:Hid (dP S (making++[nm]) made 201):=by have h1:=fj (bA H2).1 (bA H2).2 H0 H1;have h2:=Fm.out;unfold dP at h2 ⊢;show _<=_;omega
 go_wp2_with fail;clear y k1;rw[ZQ.out];clear ZQ;obtain⟨eb,fd⟩:∃eb,eb=A (z H):=⟨_,rfl⟩
 rw[<-fd] at U5 ⊢;have HEB:=ae fd;have DE:A (z w)<=eb:=by omega
 clear fd;refine(Bb CC n FP made G V _ md W5 eb tg nm (by simp;omega) M5 (jC HP H0) FX (bA H2).1 U5).mono ?_;intro e P o;obtain⟨R1,ZJ⟩:∃R1,R1=bU S (aQ S n (making++[nm])) tg 201 made [] []:=⟨_,rfl⟩
 have HT:Hid (nh S (n+1) making made nm tg=jq nm tg R1):=by rw[ZJ];rfl
 rw[<-ZJ] at o;have FK:=ae ZJ;clear ZJ;have K5:Hid (KX (A (z w0)) XN w W5):=K4.to (KX.q (X:=XN) A5 ly ur);rcases R1 with ⟨n8,x⟩|c|d
 ·obtain⟨rfl,G1,V1,mk1,FO,v1,ex,th,n9,ph,sm,ld⟩:=o;have GD:=ae (lH CC.ok (bA H2).1 (ey CC.ok n (making++[nm])) _ _ _ _ _ _ (jC HP H0) (lG S made) rfl FK.symm);have M6:=ae ex;have E6:=ae th;have F6:=ae n9;have V6:=ae ph;have X6:=ae sm;have K6:Hid (KX (A (z w0)) XN w P):=K5.trans ld (λi hi h=>by have e2:i=eb:=h;omega);have hz6:A (z W5)<=A (z P):=ld.aa.size;have ro:(making++[nm]).length=L+1:=by rw[eL,D0,<-g.out]
  have ZI:=ex.rmk;rw[ro] at ZI;obtain⟨ZP,f,cur7,rfl,bt⟩:=ZI.2.resolve_left (λh=>by omega);have hcap7:L+1<=f:=bt.2.2.1;have R6:=ae (ownsRow_pop (n:=L) (xs:=bo making) (last:=[U nm]) (by rw[bo,LI,Nat.mul_one];exact g.symm) (by simpa[bo] using ZI));clear ex th n9 ph sm ld bt ZI ro;obtain⟨hml6,-,-,-,m,-,mf⟩:=M6.ab.K;have FY:=mf 3;clear mf;go_wp2_with fail;have hwr:IntKind.i64.wrap (L:Int)=(L:Int):=wrapM (by omega) (by omega);have hI0:(0:Int)<=(L:Int):=by omega
  have hI1:(L:Int)<=(f:Int):=by omega
  refine aD (λV=>V.cell? (N mb 3 Z)=T (Y (T (N ZP 0 Z)) (L+1) f)) 14 (by kernel_rfl) ?_;have l:Hid (P.drew.cell? (N mb 3 Z)=T (Y (T (N ZP 0 Z)) (L+1) f)):=m;iterate 10
   refine aH 0 (v:=?_) rfl rfl (by kernel_rfl) (λ_ _ _ h=>h) rfl ?_ l ?_;rotate_left
   ·(intro wz s0;go_simp)
    (try with_reducible rfl)
   (try simp only[Act.put,nzL])
  refine eP (i:=10) (v:=Q I (L:Int)) rfl (by kernel_rfl) (by kernel_rfl) (by kernel_rfl) (by kernel_rfl) (λ_ _ _ h=>h) rfl ?_ l ?_;{intro wz s0;go_simp}
  (try simp only[Act.put,nzL])
  refine eP (i:=11) (v:=Y (T (N ZP 0 Z)) L f) rfl (by kernel_rfl) (by kernel_rfl) (by kernel_rfl) (by kernel_rfl) (λ_ _ _ h=>h) rfl ?_ l ?_;{intro wz s0;go_simp}
  (try simp only[Act.put,nzL])
  iterate 2
   refine bH 12 rfl rfl (by kernel_rfl) λK b=>?_;go_simp;refine b _ _ (λ_=>l) ?_;clear b K
   (try simp only[Act.put,nzL])
  have M7:=ae (M6.mked (w':=P) (nk':=making.length) (ks':=bo making) (v:=Y (T (N ZP 0 Z)) L f) (World.grownBy.refl _ _) (by rw[<-g.out];exact R6));refine ai (i:=14) rfl (by kernel_rfl) λK b=>?_;go_simp;refine b _ _ (λh=>absurd rfl h) ?_;clear b K l m FY
  (try simp only[Act.put])
  refine aT (by kernel_rfl) ?_ _;have D7:Hid (Below (P.setCell (N mb 3 Z) (Y (T (N ZP 0 Z)) L f)).heap.size (P.setCell (N mb 3 Z) (Y (T (N ZP 0 Z)) L f)) (P.setCell (N mb 3 Z) (Y (T (N ZP 0 Z)) L f)).drew):=br.drew;go_wp2_with fail;go_ret;rw[HT.out];have M8:=M7.1.aa D7.out ly;have K8:=M7.2.to (KX.q (X:=XN) D7 ly M7.1.lt);obtain⟨g1,-,-,-,-,g6⟩:=GD.out;exact⟨n8,making++[nm],G1,V1,_,FO,v1,eb,rfl,.inr rfl,rfl,M8,E6.kx K8 (λh=>h) (λ_ _ h=>h),rfl,(jD g1).2,(jD g1).1,g6,F6,DE,λk q=>nD (by omega) (V6 k q),X6.mono (by omega),K6.to K8⟩
 {obtain⟨u,rfl,g1,g2⟩:=o;go_wp2_with fail;rw[HT.out];exact⟨rfl,u,rfl,g1,K5.aa.trans g2⟩};{obtain⟨rfl,g2⟩:=o;go_wp2_with fail;rw[HT.out];exact⟨rfl,rfl,K5.aa.trans g2⟩}
end
theorem gy (g:Nat->ByteArray)(n:Nat)(t:ByteArray):aF g n t=(atI g n t).isSome:=by unfold aF atI;rw[KU,List.find?_isSome,OT]
theorem yP{g:Nat->ByteArray}{n i j:Nat}{t:ByteArray}(o:aP g n=ZF)(h:atI g n t=T j)(hi:i<=n)(h1:∀m,m<i->aG (g m) t=ZF)(h2:∀m,i<=m->m<n->aG (g m) t=ZA):i=j:=by have f:=lQ o hi h1 h2;rw[gy,h,Option.isSome_some] at f;have b:=f.symm;rw[p6,xT] at b;have l:=bA h;exact asc_one o b.1 l.1 b.2 (by rw[l.2];simp)
section
variable {w0:M}{S:Spc}{a0 a1:Option Addr}{c0 c1 mb mp:Nat}{mk md:ZB}{making:List ByteArray}{made:List Ent}{G:ByteArray->Nat}{V:ByteArray->ZB}
theorem qv{b:M}(h:MI w0 S mb mp s0 s1 w making making made G V mk md)(n:PG S making made)(o:aZ made nm=Z)(hb:Below (A (z w)) w b)(f:Int)(i:f≠3)(tx:ByteArray):dn w0 S mb mp s0 s1 making made G V w nm (ZD (.pointer (T (N (A (z b)) 0 Z)))) (b.alloc (J #[U nm,Q I f,Q I 0,U tx,Y Z 0 0,Y Z 0 0,Y Z 0 0,Q I 0] 176)) (eJ made ⟨nm,f,0,tx,0,[]⟩):=by
 have h1:=h.aa hb ly;have g:=(BS b).alloc ly (J #[U nm,Q I f,Q I 0,U tx,Y Z 0 0,Y Z 0 0,Y Z 0 0,Q I 0] 176);refine⟨made,making,G,V,mk,md,Y Z 0 0,A (z b),rfl,.inl rfl,rfl,h1.aa g ly,⟨⟨Y Z 0 0,gM _ _,?_⟩,h1.lt,⟨rfl,.inl ⟨rfl,rfl⟩⟩⟩,rfl,dC o,n,λl p=>absurd p nj,λy m=>?_,hb.size,λk i=>(by cases i),Ext.refl _ _ _ _,(KX.q (X:=XN) hb ly h.lt).to (KX.q g ly h1.lt)⟩;{rw[oI,eT i]};{obtain⟨act,j,_⟩:=(h1.ao y m).ad;have:=ag j;omega}
theorem yQ (C:Ctx w0 S a0 c0 a1 c1)(w:M)(nm:ByteArray)(i:Nat)(h:MI w0 S mb mp (Y a0 S.n0 c0) (Y a1 S.n1 c1) w making making made G V mk md)(y:PG S making made)(u:aZ made nm=Z)(h2:atI (nm0 S.f0) S.n0 nm=T i):Calls Pg 169 #[.pointer (T (N mb 0 Z)),U nm] w λe D=>dn w0 S mb mp (Y a0 S.n0 c0) (Y a1 S.n1 c1) making made G V w nm e D (eJ made ⟨nm,1,0,(S.f0 i).y,0,[]⟩):=by
 obtain⟨g,m0,x,-⟩:=h.ab.K;have m:=ae h;have B:=ae y;have E:=ae u;have ZR:=ae h2;have n:=ae C;have t:aF (nm0 S.f0) S.n0 nm=ZF:=by rw[gy,h2];rfl
 have q:i<S.n0:=(bA h2).1;have hsm:=C.ok.ax;obtain⟨bs,os,rfl,f⟩:=C.src.resolve_left (by omega);have b:=ae f;clear h y u h2 C f;go_enter func169,ntmps169;go_wp2_with fail;refine(eX _ S.n0 c0 a1 S.n1 c1 S.f0 nm w (by omega) (n.src.aa m.X ly) n.ok.asc0).mono ?_;rintro e w1 ⟨j,rfl,s,p,r,o⟩;obtain rfl:j=i:=yP n.ok.asc0 ZR s p r;have ZS:=ae o;have l:=ae (m.aa o ly);obtain⟨q0,q1⟩:=(b.aa l.X ly).2 j q;have hbs:=(b.aa l.X ly).1;clear o p r s m0 x g;obtain⟨g,m0,x,-⟩:=l.ab.K;rw[t];have hI:(j:Int)<S.n0:=by omega
 go_wp2_with fail;go_ret;exact qv m B E ZS 1 (by decide) _
theorem xn (C:Ctx w0 S a0 c0 a1 c1)(w:M)(nm:ByteArray)(h:MI w0 S mb mp (Y a0 S.n0 c0) (Y a1 S.n1 c1) w making making made G V mk md)(q:PG S making made)(s:aZ made nm=Z)(h2:atI (nm0 S.f0) S.n0 nm=Z)(r:atI (nm1 S.f1) S.n1 nm=Z):Calls Pg 169 #[.pointer (T (N mb 0 Z)),U nm] w λe B=>dn w0 S mb mp (Y a0 S.n0 c0) (Y a1 S.n1 c1) making made G V w nm e B (eJ made ⟨nm,2,0,⟨#[]⟩,0,[]⟩):=by
 obtain⟨f,m0,p,-⟩:=h.ab.K;have l:=ae h;have ZS:=ae q;have ZR:=ae s;have g:=ae C;have x:aF (nm0 S.f0) S.n0 nm=ZA:=by rw[gy,h2];rfl
 have i:aF (nm1 S.f1) S.n1 nm=ZA:=by rw[gy,r];rfl
 have hsm:=C.ok.ax;clear h q s h2 r C;go_enter func169,ntmps169;go_wp2_with fail;refine(eX _ S.n0 c0 a1 S.n1 c1 S.f0 nm w (by omega) (g.src.aa l.X ly) g.ok.asc0).mono ?_;rintro e y ⟨j,rfl,o,m,n,b⟩;have u:=ae b;have t:=ae (l.aa b ly);clear b m n o m0 p f;obtain⟨f,m0,p,-⟩:=t.ab.K;rw[x];go_wp2_with fail;refine(gj a0 S.n0 c0 _ S.n1 c1 S.f1 nm y (by omega) (g.j.aa t.X ly) g.ok.asc1).mono ?_;rintro e w2 ⟨j2,rfl,o,m,n,b⟩;have D:=ae (u.trans (b.mono u.size));clear b m n o m0 p f;rw[i];go_wp2_with fail;go_ret;exact qv l ZS ZR D 2 (by decide) _
theorem yR (C:Ctx w0 S a0 c0 a1 c1)(n:Nat)(HL:∀m,n=m+1->iR w0 S mb mp (Y a0 S.n0 c0) (Y a1 S.n1 c1) m)(w:M)(nm:ByteArray)(tg:Nat)(aq:making.length+n=60)(h:MI w0 S mb mp (Y a0 S.n0 c0) (Y a1 S.n1 c1) w making making made G V mk md)(hp:PG S making made)(s:dP S making made 1)(hn:aA nm=ZF)(h0:aZ made nm=Z)(h1:atL making nm=Z)(h2:atI (nm0 S.f0) S.n0 nm=Z)(ZR:atI (nm1 S.f1) S.n1 nm=T tg):Calls Pg 169 #[.pointer (T (N mb 0 Z)),U nm] w λe i=>dn w0 S mb mp (Y a0 S.n0 c0) (Y a1 S.n1 c1) making made G V w nm e i (nh S n making made nm tg):=by
 obtain⟨ZS,m0,P,-⟩:=h.ab.K;have HM:=ae h;have H:=ae C;have H3:=ae ZR;have ld:aF (nm0 S.f0) S.n0 nm=ZA:=by rw[gy,h2];rfl
 have ZJ:aF (nm1 S.f1) S.n1 nm=ZF:=by rw[gy,ZR];rfl
 have ZN:tg<S.n1:=(bA ZR).1;have ph:(S.f1 tg).e=nm:=(bA ZR).2;have hsm:=C.ok.ax;obtain⟨K,os,rfl,ZP⟩:=C.j.resolve_left (by omega);have g:=ae ZP;have HX:Hid (∀(o:M) (a:Option Addr) (cap:Nat),Below (A (z w)) w o->SlIns w0 a (S.f1 tg).m (S.f1 tg).D->Calls Pg 221 #[.pointer (T (N mb 0 Z)),ZG #[U nm,Y a (S.f1 tg).m cap]] o λe i=>dn w0 S mb mp (Y a0 S.n0 c0) (Y (T (N K os Z)) S.n1 c1) making made G V w nm e i (nh S n making made nm tg)):=by
  intro o a cap hb t;have hw:∀e i res,dn w0 S mb mp (Y a0 S.n0 c0) (Y (T (N K os Z)) S.n1 c1) making made G V o nm e i res->dn w0 S mb mp (Y a0 S.n0 c0) (Y (T (N K os Z)) S.n1 c1) making made G V w nm e i res:=by
   intro e i res r;have ZL:Below (A (z w0)) w o:=hb.mono h.lt;rcases res with ⟨ZM,x⟩|c|d;{obtain⟨y,mm,G',V',ZK,ZI,v',eb,f,l,E,q4,q5,q6,q7,q8,q9,ex,n9,fd,n8,ro⟩:=r;exact⟨y,mm,G',V',ZK,ZI,v',eb,f,l,E,q4,q5,q6,q7,q8,q9,ex,nD hb.size n9,λk hk=>nD hb.size (fd k hk),n8.mono hb.size,(KX.q (X:=XN) hb ly h.lt).to ro⟩};{obtain⟨u,f,l,E⟩:=r;exact⟨u,f,l,ZL.trans E⟩};{obtain⟨f,E⟩:=r;exact⟨f,ZL.trans E⟩}
  cases n with
  |zero =>refine(uB o a _ cap nm (h.aa hb ly) (by omega)).mono ?_;rintro e i ⟨f,l⟩;exact hw _ _ _ ⟨f,l.mono (nD h.lt hb.size)⟩
  |succ m =>exact(xm C m (HL m rfl) o a cap tg nm aq (h.aa hb ly) hp s hn h0 h1 ZR t).mono λe i q=>hw _ _ _ q
 obtain⟨R,hR⟩:∃R,R=nh S n making made nm tg:=⟨_,rfl⟩
 rw[<-hR] at HX ⊢;clear h hp h0 h1 h2 ZR C ZP s HL hn hR;go_enter func169,ntmps169;go_wp2_with fail;refine(eX _ S.n0 c0 _ S.n1 c1 S.f0 nm w (by omega) (H.src.aa HM.X ly) H.ok.asc0).mono ?_;rintro e w1 ⟨j,rfl,ZQ,ZO,L,B⟩;have B1:=ae B;have M1:=ae (HM.aa B ly);clear B ZO L ZQ m0 P ZS;obtain⟨ZS,m0,P,-⟩:=M1.ab.K;rw[ld];go_wp2_with fail;refine(gj a0 S.n0 c0 _ S.n1 c1 S.f1 nm w1 (by omega) (H.j.aa M1.X ly) H.ok.asc1).mono ?_;rintro e o ⟨D,rfl,ZQ,ZO,L,B⟩;obtain rfl:D=tg:=yP H.ok.asc1 H3 ZQ ZO L;have B2:=ae (B1.trans (B.mono B1.size));have O:=ae (HM.aa B2 ly);clear B ZO L ZQ m0 P ZS;obtain⟨ZS,m0,P,-⟩:=O.ab.K;obtain⟨q0,aa,ca,f,-⟩:=(g.aa O.X ly).2 D ZN;obtain⟨-,aa',ca',W,t⟩:=g.2 D ZN;have bt:=g.1;have e1:=(O.X.cell (p:=(N K (os+D*2+1) Z)) bt).trans W;rw[f] at e1;simp only[JE,JG,P6] at e1;obtain⟨rfl,rfl⟩:=e1;have mv:=ae t;have hbs:=(g.aa O.X ly).1;rw[ph] at q0;clear W t;rw[ZJ];have hI:(D:Int)<S.n1:=by omega
 go_wp2_with fail;refine(HX o aa ca B2 mv).mono ?_;intro e w3 b;rcases R with ⟨ZM,x⟩|c|d;{have qr:=ae b;obtain⟨y,mm,G',V',ZK,ZI,v',eb,-,-,rfl,-⟩:=b;go_wp2_with fail;go_ret;exact qr};{obtain⟨u,rfl,f,l⟩:=b;go_wp2_with fail;exact⟨rfl,u,rfl,f,l⟩};{obtain⟨rfl,l⟩:=b;go_wp2_with fail;exact⟨rfl,rfl,l⟩}
end
section
variable {w0:M}{S:Spc}{a0 a1:Option Addr}{c0 c1 mb mp:Nat}{mk md:ZB}{making:List ByteArray}{made:List Ent}{G:ByteArray->Nat}{V:ByteArray->ZB}
theorem xo{l:M}(s:A (z w0)<=A (z w))(hb:Below (A (z w)) w l):∀e m res,dn w0 S mb mp s0 s1 making made G V l nm e m res->dn w0 S mb mp s0 s1 making made G V w nm e m res:=by
 intro e m res b;have i:Below (A (z w0)) w l:=hb.mono s;rcases res with ⟨made',x⟩|c|d;{obtain⟨h,B,ZO,ZP,y,q,C,ZQ,g,j,f,H,L,D,K,E,ZR,n,p,r,o,t⟩:=b;exact⟨h,B,ZO,ZP,y,q,C,ZQ,g,j,f,H,L,D,K,E,ZR,n,nD hb.size p,λk ZS=>nD hb.size (r k ZS),o.mono hb.size,(KX.q (X:=XN) hb ly s).to t⟩};{obtain⟨u,g,j,f⟩:=b;exact⟨u,g,j,i.trans f⟩};{obtain⟨g,f⟩:=b;exact⟨g,i.trans f⟩}
theorem Bg (w:M)(nm:ByteArray)(R:Out Ent)(h:MI w0 S mb mp (Y a0 S.n0 c0) (Y a1 S.n1 c1) w making making made G V mk md)(hml60:making.length<=60)(hn:nm.size<=60)(h0:aZ made nm=Z)(h1:atL making nm=Z)(l:∀i x,R=.inl (i,x)->i.length<=60000)
  (HF:∀W,Below (A (z w)) w W->Calls Pg 169 #[.pointer (T (N mb 0 Z)),U nm] W λe C=>dn w0 S mb mp (Y a0 S.n0 c0) (Y a1 S.n1 c1) making made G V w nm e C R) :
  Calls Pg 112 #[.pointer (T (N mb 0 Z)),U nm] w λe C=>s8 w0 S mb mp (Y a0 S.n0 c0) (Y a1 S.n1 c1) making made G V w e C R:=by
 obtain⟨i1,hi,ro,sm,ld⟩:=oJ AZ;have HV:=ae (show(de G making made nm.toList).getD (ZG #[Q I 0,.pointer Z])=ZG #[Q I 0,.pointer Z] by rw[gG h0,h1];rfl);have mv:=ae (show(de G making made nm.toList).isSome=ZA by rw[gG h0,h1];rfl);have HM:=ae h;have ph:=ae HF;have ur:=ae l;obtain⟨hl,-,-,c2,-,-,-⟩:=h.ab.K;have K:nm.size<=maxLen:=by unfold maxLen;omega
 have hz:=nA;have B1:=ae ((BS w).alloc ly (J #[Q I 0,.pointer Z] 240));clear h h0 h1 HF l;go_enter func112,ntmps112
 go_wp2_with (first
  |(at_lookup;refine ie _ rfl _ _ 169 rfl 240 NM (hz _) mp _ _ rfl HM.map nm rfl K _ HV ZA mv ?_)
  |fail)
 clear c2;generalize World.alloc w _=W1 at B1 ⊢;refine(ph W1 B1).mono ?_;intro e w1 g;rcases R with ⟨i,x⟩|c|d
 ·obtain⟨b,mm,G1,V1,mk1,md1,v1,H,rfl,s,rfl,p,ZQ,ZM,P,O,has,ZJ,n9,ZK,aq,ZN⟩:=g;have qr:b.length<=60000:=by have:=ur.out _ _ rfl;simp at this;omega
  have hmml:mm.length<=making.length+1:=by rcases s with rfl|rfl<;>simp
  obtain⟨ap,cp,rfl⟩:=ct p.W;have M1:=ae p;have E1:=ae ZQ;have r:=ae ZM;have n8:=ae P;have P1:=ae O;have fd:=ae has;have F1:=ae ZJ;have th:=ae ZK;have X1:=ae aq;have K1:=ae ZN;have MM:=ae s;obtain⟨o,t⟩:∃o,o=b.length:=⟨_,rfl⟩
  have j:=ae t;obtain⟨ZI,-,-,m2,-,B,-⟩:=p.ab.K;rw[<-t] at B qr;clear p ZQ ZM P O has ZJ ZK aq ZN s t
  go_wp2_with (first
   |(at_mapUpdate;refine xh _ rfl _ _ _ 169 rfl 240 NM mp _ _ rfl M1.map (by unfold maxLen;have:=j.out;omega) nm (ZG #[Q I 0,.pointer (T (N H 0 Z))]) rfl rfl K ?_;intro D L ZL;have ZP:=ae (M1.mapped ZL L);clear L ZL m2 B ZI;obtain⟨ZI,-,-,-,-,B,mf⟩:=ZP.1.ab.K;rw[<-j.out] at B;have AB:=ae ((BS D).alloc ly (J #[.pointer (T (N H 0 Z))] 172));have f:=ae (ZP.1.aa AB ly);have RD:=ae (by have h:=f.W;rw[<-j.out] at h;exact h))
   |(at_builtin;refine IS _ rfl (.tmp 49) (.tmp 51) 94 rfl (A (z w0)) 172 i1 (.pointer Z) 1 8 underlying94 hi ro sm ld rfl (by decide) (Y ap o cp) o (lK G1 b) (by simp[Act.eval]) RD.out (N (A (z D)) 0 Z) 1 1 [.pointer (T (N H 0 Z))] (by simp[Act.eval]) rfl (yO D _ _) (by simp[Value.oneCell']) (by unfold maxLen;omega) (by omega) f.lt ?_;intro v3 w3 m q ex;have O3:=ae m;have E:=ae q;obtain⟨g4,ZR,cur4,rfl,At⟩:=m.2.resolve_left (λh=>by omega);clear At m q ex;have ZS:Hid (T mb≠(Value.slice ap o cp).ownBlock):=(λe=>by obtain⟨_,_,cs,hc⟩:=af RD mb e.symm;exact absurd (ah f.ab hc) (by decide));have s4:=(cq (a:=(N mb 4 Z)) (E.block mb (ag f.ab) ZS)).trans f.ab.K.2.2.2.2.2.1;have f4:=(JK (a:=(N mb 4 Z)) (E.block mb (ag f.ab) ZS)).trans (f.ab.K.2.2.2.2.2.2 4);have hml3:mb<A (z w3):=lj (ag f.ab) E.size)
   |fail)
  go_ret;have h5:=f.mded (w':=w3) (np':=b.length+1) (ps':=lK G1 b++[.pointer (T (N H 0 Z))]) (v:=Y (T (N g4 0 Z)) (o+1) ZR) (by rw[<-j.out];exact E) (by rw[<-j.out];exact O3);have bt:KX (A (z w0)) XN w1 (w3.setCell (N mb 4 Z) (Y (T (N g4 0 Z)) (o+1) ZR)):=(ZP.2.to (KX.q (X:=XN) AB ly ZP.1.lt)).to h5.2;have ZO:aZ b nm=Z:=PQ.2 λy hy=>by intro e2;exact n8 y hy (bytes_beq e2)
  have h6:=MIg.added (x:=x) h5.1 P1 ZO r MM (by omega) (E1.kx bt (λh=>h) (λ_ _ h=>h)) F1 fd;exact⟨_,_,_,_,(by rw[r.out,ee];rfl),h6,X1.trans (DV (n:=A (z w)) ZO r n9 th) ly,K1.to bt⟩
 {obtain⟨u,rfl,q1,q2⟩:=g;go_wp2_with fail;exact⟨rfl,u,rfl,q1,q2⟩};{obtain⟨rfl,q2⟩:=g;go_wp2_with fail;exact⟨rfl,rfl,q2⟩}
theorem Bh (C:Ctx w0 S a0 c0 a1 c1):∀n,iR w0 S mb mp (Y a0 S.n0 c0) (Y a1 S.n1 c1) n:=by
 have o:∀n,(∀m,n=m+1->iR w0 S mb mp (Y a0 S.n0 c0) (Y a1 S.n1 c1) m)->iR w0 S mb mp (Y a0 S.n0 c0) (Y a1 S.n1 c1) n:=by
  intro n q making made G V mk md w nm p h s b hn;have f:=lF hn;have g:=fS S n making made nm;rw[ni] at g ⊢;unfold ew at g ⊢;cases h0:aZ made nm with
  |some e =>refine(AU w nm h f e h0).mono ?_;rintro r y ⟨rfl,hb⟩;exact⟨G,V,mk,md,rfl,h.aa hb ly,Ext.refl _ _ _ _,KX.q hb ly h.lt⟩
  |none =>
   cases h1:atL making nm with
   |some i =>refine(uA w nm h f (by omega) h0 i h1).mono ?_;rintro r y ⟨u,rfl,B,ZR⟩;exact⟨u,rfl,aC B h.lt,ZR.mono h.lt⟩
   |none =>
    rw[h0] at g;simp only[h1] at g;dsimp only;refine Bg w nm _ h (by omega) f h0 h1 (λl x D=>?_) λW ZS=>?_;{have:=g l x D;unfold dP at b;unfold eV at this;omega}
    ·refine Calls.mono ?_ λe y=>xo h.lt ZS e y _;have j:=h.aa ZS ly;unfold fR;cases h2:atI (nm0 S.f0) S.n0 nm with
     |some i=>exact yQ C W nm i j s h0 h2
     |none =>
      cases h3:atI (nm1 S.f1) S.n1 nm with
      |some t=>exact yR C n q W nm t p j s b hn h0 h1 h2 h3
      |none=>exact xn C W nm j s h0 h2 h3
 intro n;induction n with
 |zero=>exact o 0 λm e=>by omega
 |succ n E=>exact o (n+1) λm e=>by cases e;exact E
end
