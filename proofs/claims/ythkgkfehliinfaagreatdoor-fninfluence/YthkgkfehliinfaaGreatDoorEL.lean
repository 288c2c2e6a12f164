import Derived.Test.YthkgkfehliinfaaGreatDoorEK
import Derived.WalkSmall
set_option linter.all false
set_option maxRecDepth 1000000
set_option maxHeartbeats 8000000
open Go renaming Addr.mk->Q,Value.slice->Y,Value.string->U,Value.int->J,Value.agg->ZJ,Obj.cells->N,IntKind.i64->I,World->E,Value->ZB,TypeId->ZK,Ending.returned->ZI,World.heap->z,World.cell?->ZW,World.setCell->ZU,Proofs.Tryz.prog->Pg
open Option renaming none->Z,some->T
open Bool renaming false->ZA,true->ZH
open Array renaming size->A
open List renaming length->ZV
namespace Go.Proofs.YthkgkfehliinfaaGreatDoor.Vp
open Tryz RowKit Ca Go.Maps
variable {w:E}{nm:F_}
def vY{i:Array Oper}{o:Oper}{a:Act}{K:Act->E->Prop}{ZP:Exit->Act->E->Prop}{ZT:Prop}(y:o.guard=Z)(m x v:Operand)(t:ZK)(p:o.op=Op.mapUpdate t m x v)(e:ZK)(B:Pg.underlying t=T (.map 9 e))(b n:Nat)(G:List UInt8->Option ZB)
  (C:a.eval m=.map (T b)) (j:MapN w b n G) (hn:n<maxLen) (g:F_) (f:ZB) (H:a.eval x=U g) (ZR:a.eval v=f) (ZS:g.size<=maxLen)
  (ZY:∀h,MapN h b (n+1) (λs=>if s=g.toList then T f else G s)->w.grownBy h (T b)->K (a.put o.dst undef) h) :
  if Region.wanted o (yielded i a.tmps)=ZH then Oper.wp Pg o a w K ZP else ZT:=by
 have r:Region.wanted o (yielded i a.tmps)=ZH:=by simp[Region.wanted,y]
 rw[eT r];obtain⟨D,q,u⟩:=j;obtain⟨h,l,r1,ZX⟩:=q.update rO B hn (QT ES ZS) (val:=f) (d:=.held f) (ps:=[]) rfl;unfold Oper.wp;simp[execOp,p,C,H,ZR,l,Result.andThen];refine ZY h ⟨_,r1,?_⟩ ZX;have:=vS (x:=g.toList) (v:=f) q.isMap u;rw[NM] at this ⊢;exact this
def CJ (w:E)(v:ZB)(t:ZK):∀j u,[v][j]?=T u->(w.alloc (N #[v] t)).cell? (((Q (A (z w)) 0 Z):Addr).add j)=T u:=by
 intro j u h;rw[addr_add];have f:j=0:=by
  rcases OT j 1 with b|b;{omega};{rw[NU (by simp;omega)] at h;cases h}
 subst f;simp at h;subst h;simp
def wrapM{ZY:Int}(h0:0<=ZY)(h1:ZY<=1048576):IntKind.i64.wrap ZY=ZY:=by rw[nL];omega
def dQ (w0:E)(S:x_)(mb mp:Nat)(s0 s1:ZB)(q_:List F_)(jh:List zt)(G:F_->Nat)(V:F_->ZB)(w:E)(nm:F_)(e:Ending)(f:E):Out zt->Prop
 |.inl (made',x)=>∃b i h m o j n g,made'=b++[x]/\(i=q_\/i=q_++[nm])/\e=ZI (.pointer (T (Q g 0 Z)))/\MI w0 S mb mp s0 s1 f i q_ b h m o j/\EntAt w0 S h f g n x/\x.e=nm/\(∀y∈b,y.e≠nm)/\PG S q_ b/\(∀l∈x.D,l.ask=ZH->∃y∈b,y.e=l.e)/\(∀y∈b,h y.e≠g)/\(A (z w))<=g/\(∀k,n.ownBlock=T k->A (z w)<=k)/\Ext (A (z w)) jh b G h V m/\KX (A (z w0)) XN w f
 |.inr (.inl c)=>∃v,e=.panicked [{ v:=.iface 235 (ZJ #[v]),recovered:=ZA }]/\f.ownsRow (A (z w0)) 9 1 v (ZV c) (bO c)/\Below (A (z w0)) w f
 |.inr (.inr d)=>e=.panicked [{ v:=.iface 237 (ZJ #[U d]),recovered:=ZA }]/\Below (A (z w0)) w f
section
variable {w0:E}{S:x_}{a0 a1:O_}{c0 c1 mb mp:Nat}{mk md:ZB}{q_:List F_}{jh:List zt}{G:F_->Nat}{V:F_->ZB}
def xE (w:E)(a:O_)(y_ j_:Nat)(nm:F_)(h:MI w0 S mb mp (Y a0 S.n0 c0) (Y a1 S.n1 c1) w q_ q_ jh G V mk md)(b:ZV q_=60):Calls Pg 192 #[.pointer (T (Q mb 0 Z)),ZJ #[U nm,Y a y_ j_]] w λe i=>e=.panicked [{ v:=.iface 237 (ZJ #[U nm]),recovered:=ZA }]/\Below (A (z w)) w i:=by
 obtain⟨ak,ck,rfl⟩:=bM h.rmk;have f:=ae ((BS w).alloc ly (N #[U nm,Y a y_ j_] 95));have g:=ae (h.aa f ly);obtain⟨hml,-,-,-,j,-,-⟩:=g.ab.K;have k0:(w.alloc (N #[U nm,Y a y_ j_] 95)).cell? (Q (A (z w)) 0 Z)=T (U nm):=by simp
 rw[b] at j;clear h g b;go_enter func192,ntmps192;go_wp2_with fail;exact⟨rfl,rfl,f⟩
def Ao (C:Ctx w0 S a0 c0 a1 c1)(n:Nat)(HL:jX w0 S mb mp (Y a0 S.n0 c0) (Y a1 S.n1 c1) n)(w:E)(a:O_)(j_ tg:Nat)(nm:F_)(hlen:ZV q_+(n+1)=60)(h:MI w0 S mb mp (Y a0 S.n0 c0) (Y a1 S.n1 c1) w q_ q_ jh G V mk md)(hp:PG S q_ jh)(r:eX S q_ jh 1)(hn:aA nm=ZH)(h0:aS jh nm=Z)(h1:atL q_ nm=Z)(h2:atI (nm1 S.f1) S.n1 nm=T tg)(n9:SlIns w0 a (S.f1 tg).h (S.f1 tg).u):Calls Pg 192 #[.pointer (T (Q mb 0 Z)),ZJ #[U nm,Y a (S.f1 tg).h j_]] w λe w'=>dQ w0 S mb mp (Y a0 S.n0 c0) (Y a1 S.n1 c1) q_ jh G V w nm e w' (nR S (n+1) q_ jh nm tg):=by
 obtain⟨i1,hi,JH,Fk,Fd⟩:=qP FP;obtain⟨B,ZX,rfl⟩:=bM h.rmk;have GS:A (z w0)<=A (z w):=h.lt;have JN:nm.size<=maxLen:=by have:=nS hn;unfold maxLen;omega
 have A0:=ae ((BS w).alloc ly (N #[U nm,Y a (S.f1 tg).h j_] 95));have kt:Hid ((w.alloc (N #[U nm,Y a (S.f1 tg).h j_] 95)).heap[A (z w)]?=T (N #[U nm,Y a (S.f1 tg).h j_] 95 (0,0))):=gM _ _;have M0:=ae (h.aa A0 ly);have CC:=ae C;have Id:=ae HL;have HP:=ae hp;have HN:=ae hn;have H0:=ae h0;have H1:=ae h1;have H2:=ae h2;have JO:=ae n9;have hmade:ZV jh<=50000:=by unfold eX at r;omega
 have JJ:=ae r;clear h C HL hp hn h0 h1 h2 n9 r;obtain⟨L,hL⟩:∃L,L=ZV q_:=⟨_,rfl⟩
 have g:=ae hL;have hL60:L<60:=by omega
 obtain⟨ZT,-,-,m2,l,-,-⟩:=M0.ab.K;obtain⟨-,q,-⟩:=(show(w.alloc (N #[U nm,Y a (S.f1 tg).h j_] 95)).cell? (Q (A (z w)) 0 Z)=T (U nm)/\(w.alloc (N #[U nm,Y a (S.f1 tg).h j_] 95)).cell? (Q (A (z w)) 0 Z)=T (U nm)/\True from⟨by simp,by simp,trivial⟩)
 rw[<-hL] at l;clear hL;have hL60i:((L:Int) == 60)=ZA:=by simp;omega
 go_enter func192,ntmps192;go_wp2_with fail;generalize World.alloc w _=W0 at A0 kt M0 m2 l ZT q ⊢;refine wp_region_held_drew (S:=λV=>ZW V (Q mb 2 Z)=T (.map (T mp))/\ZW V (Q mb 3 Z)=T (Y B L ZX)/\ZW V (Q (A (z w)) 0 Z)=T (U nm)) (by kernel_rfl) ⟨m2,l,q⟩ λhS=>?_;have m:=ae hS;clear hS;iterate 12
  refine aN 0 (v:=?_) rfl rfl (by kernel_rfl) (λ_ _ _ h=>h) rfl ?_ m ?_;rotate_left
  ·(rintro wz⟨s0,s1,s2⟩;go_simp)
   (try with_reducible rfl)
  (try simp only[Act.put,yh])
 have MD:=ae (M0.aa (a8 _ W0).drew ly);refine aL (i:=12) rfl (by kernel_rfl) λK b=>?_;refine vY rfl _ _ _ 200 rfl 240 TW mp (2*(ZV jh)+ZV q_) (dK G q_ jh) rfl MD.map (by unfold maxLen;omega) nm (ZJ #[J I (L:Int),.pointer Z]) rfl rfl JN ?_;intro j th ur;have ZL:=ae (MD.mapped (cnt':=2*(ZV jh)+(q_++[nm]).length) (F':=dK G (q_++[nm]) jh) ur ((th.congr λs=>by rw[<-Am H0.i H1.i s,<-g.i]).P (by simp;omega)));clear th ur;have M:=ae ZL.1;have K1:Hid (KX (A (z w0)) XN w j):=(KX.q (X:=XN) (A0.k ((a8 _ W0).drew.P A0.size)) ly GS).to ZL.2;have D:Hid (j.heap[A (z w)]?=T (N #[U nm,Y a (S.f1 tg).h j_] 95 (0,0))):=(ZL.2.ad _ _ _ _ kt (by decide) (by decide) (by decide) λh=>h).k kt;clear m m2 l q ZT ZL;obtain⟨ZT,-,-,m2,l,-,-⟩:=M.ab.K;rw[<-g.i] at l;have JK:A (z w)<A (z j):=ah D.i;have q:ZW j (Q (A (z w)) 0 Z)=T (U nm):=by simp[World.cell?,D.i]
 refine b _ _ ⟨m2,l,q⟩ ?_;clear b K
 (try simp only[Act.put])
 refine wpAnyH_done (by kernel_rfl) ?_ _;clear MD M0 kt;go_wp2_with fail;have SQ:Hid (∀V:E,(∀k,k<A (z j)->T k≠(Value.slice B L ZX).ownBlock->V.heap[k]?=j.heap[k]?)->ZW V (Q mb 3 Z)=T (Y B L ZX)/\ZW V (Q (A (z w)) 0 Z)=T (U nm)):=λV hV=>by
  have ZY:T mb≠(Value.slice B L ZX).ownBlock:=λe=>by obtain⟨_,_,cs,hc⟩:=af M.rmk mb (by rw[<-g.i];exact e.c);exact absurd (ar M.ab hc) (by decide)
  have DE:T (A (z w))≠(Value.slice B L ZX).ownBlock:=λe=>by obtain⟨_,_,cs,hc⟩:=af M.rmk (A (z w)) (by rw[<-g.i];exact e.c);exact absurd (ar D hc) (by decide)
  exact⟨(cq (a:=(Q mb 3 Z)) (hV mb ZT ZY)).k l,(cq (a:=(Q (A (z w)) 0 Z)) (hV (A (z w)) JK DE)).k q⟩
 have m:=ae (SQ j.drew (λk y _=>rfl));refine aI (λV=>ZW V (Q mb 3 Z)=T (Y B L ZX)/\ZW V (Q (A (z w)) 0 Z)=T (U nm)) 11 (by kernel_rfl) ?_;clear m2 l q;iterate 7
  first|refine aO 0 (v:=?_) rfl rfl (by kernel_rfl) (λ_ _ _ h=>h) rfl ?_ m ?_|refine aO 5 (v:=?_) rfl rfl (by kernel_rfl) (λ_ _ _ h=>h) rfl ?_ m ?_
  rotate_left
  ·(rintro wz⟨s0,s1⟩;go_simp)
   (try with_reducible rfl)
  (try simp only[Act.put,yh])
 refine ai (i:=7) rfl (by kernel_rfl) λK b=>?_;go_simp;have AB:=ae (((BS j).drew).alloc ly (N #[U nm] 9));have ZS:=ae (M.aa AB ly);refine b _ _ (λ_=>SQ _ (λk y _=>AB.p k y)) ?_;clear b K
 (try simp only[Act.put,yh])
 have RK:=ae (by have h:=ZS.rmk;rw[<-g.i] at h;exact h);refine ai (i:=8) rfl (by kernel_rfl) λK b=>?_;refine aU rfl (.tmp 32) (.tmp 35) 43 rfl (A (z w0)) 9 i1 (U ⟨#[]⟩) 1 16 NH hi JH Fk Fd rfl (by decide) (Y B L ZX) L (bO q_) (by simp[Act.eval]) RK.i (Q (A (z j)) 0 Z) 1 1 [U nm] (by simp[Act.eval]) rfl (CJ j.drew _ _) (by simp[Value.oneCell']) (by unfold maxLen;omega) (by omega) ZS.lt ?_;intro v' ZR H p JI;have O3:=ae H;have G3:=ae p;have S3:=ae (SQ ZR (λk y ZY=>(p.p k (lj y (by simp<;>omega)) ZY).k (AB.p k y)));obtain⟨g4,t,cur4,rfl,ZO⟩:=H.2.resolve_left (λh=>by omega);clear ZO;clear H p JI;refine b _ _ (λ_=>S3) ?_;clear b K m
 (try simp only[Act.put,yh])
 iterate 2
  refine bV 9 rfl rfl (by kernel_rfl) λK b=>?_;go_simp;refine b _ _ (λ_=>S3) ?_;clear b K
  (try simp only[Act.put,yh])
 have M4:Hid (MI w0 S mb mp (Y a0 S.n0 c0) (Y a1 S.n1 c1) (ZU ZR (Q mb 3 Z) (Y (T (Q g4 0 Z)) (L+1) t)) (q_++[nm]) (q_++[nm]) jh G V (Y (T (Q g4 0 Z)) (L+1) t) md/\KX (A (z w0)) XN j (ZU ZR (Q mb 3 Z) (Y (T (Q g4 0 Z)) (L+1) t))):=by have h4:=ZS.mked (w':=ZR) (nk':=(q_++[nm]).length) (ks':=bO (q_++[nm])) (v:=Y (T (Q g4 0 Z)) (L+1) t) (by rw[<-g.i];exact G3) (by rw[cM,AI,<-g.i];simpa[bO] using O3.i);exact⟨h4.1,(KX.q (X:=XN) AB ly M.lt).to h4.2⟩
 have s3:=S3.1;have Bk:mb<A (z ZR):=lj ZT (nX (by simp<;>omega) G3.size);have JM:ZR.frozen? (Q mb 3 Z)=ZA:=by
  have ZY:T mb≠(Value.slice B L ZX).ownBlock:=λe=>by obtain⟨_,_,cs,hc⟩:=af RK mb e.c;exact absurd (ar ZS.ab hc) (by decide)
  exact(NG (a:=(Q mb 3 Z)) (G3.p mb (ah ZS.ab) ZY)).k (ZS.ab.K.2.2.2.2.2.2 3)
 refine ai (i:=11) rfl (by kernel_rfl) λK b=>?_;go_simp;refine b _ _ (λh=>absurd rfl h) ?_;clear b K s3 JM
 (try simp only[Act.put,yh])
 refine ba (by kernel_rfl) ?_ _;have aq:=ae M4.1;have K4:=ae (K1.to M4.2);have ZM:=ae ((M4.2.ad _ _ _ _ D (by decide) (by decide) (by decide) λh=>h).k D);clear M4 RK ZS AB S3 O3 G3 SQ K1 M Bk;generalize World.setCell ZR _ _=R at aq K4 ZM ⊢;have hwl4:A (z w)<A (z R):=ah ZM.i;have q:ZW R (Q (A (z w)) 0 Z)=T (U nm):=by simp[World.cell?,ZM.i]
 have k1:ZW R (Q (A (z w)) 1 Z)=T (Y a (S.f1 tg).h j_):=by simp[World.cell?,ZM.i]
 obtain⟨W5,ZQ⟩:∃W:E,R.alloc (N #[U nm,J I 3,J I 0,U ⟨#[]⟩,Y a (S.f1 tg).h j_,Y Z 0 0,Y Z 0 0,J I 0] 156)=W:=⟨_,rfl⟩
 obtain⟨A5,-,hz5⟩:=nb1 ZQ;have O:=ae ZQ;clear ZQ;have At:A (z w0)<=A (z R):=aq.lt
 have U5:Hid (EU w0 S W5 (A (z R)) nm tg G [] (Y Z 0 0) jh V):=by rw[<-O.i];exact⟨⟨a,j_,gM _ _,JO⟩,At,⟨rfl,.inl ⟨rfl,rfl⟩⟩,λx hx=>by
  obtain⟨act,JG,_⟩:=(aq.W x hx).ad;have:=ah JG
  omega,λ_ _ k y=>(by cases y),λ_ hl=>absurd hl nj⟩
 have M5:=ae (aq.aa A5 ly);have Hx:Hid (eX S (q_++[nm]) jh 201):=by have h1:=gu (bu H2).1 (bu H2).2 H0 H1;have h2:=JJ.i;unfold eX at h2 ⊢;show _<=_;omega
 go_wp2_with fail;clear q k1;rw[O.i];clear O;obtain⟨eb,fd⟩:∃eb,eb=A (z R):=⟨_,rfl⟩
 rw[<-fd] at U5 ⊢;have HEB:=ae fd;have DQ:A (z w)<=eb:=by omega
 clear fd;refine(FV CC n Id jh G V _ md W5 eb tg nm (by simp;omega) M5 (iH HP H0) Hx (bu H2).1 U5).P ?_;intro e ZP o;obtain⟨R1,bt⟩:∃R1,R1=bT S (aT S n (q_++[nm])) tg 201 jh [] []:=⟨_,rfl⟩
 have HT:Hid (nR S (n+1) q_ jh nm tg=iF nm tg R1):=by rw[bt];rfl
 rw[<-bt] at o;have Fm:=ae bt;clear bt;have K5:Hid (KX (A (z w0)) XN w W5):=K4.to (KX.q (X:=XN) A5 ly At);rcases R1 with⟨mv,x⟩|c|d
 ·obtain⟨rfl,G1,V1,mk1,JL,v1,ld,ph,ro,sm,n8,ex⟩:=o;have GD:=ae (gS CC.ok (bu H2).1 (dm CC.ok n (q_++[nm])) _ _ _ _ _ _ (iH HP H0) (iv S jh) rfl Fm.c);have M6:=ae ld;have E6:=ae ph;have F6:=ae ro;have V6:=ae sm;have X6:=ae n8;have K6:Hid (KX (A (z w0)) XN w ZP):=K5.k ex (λi hi h=>by have e2:i=eb:=h;omega);have hz6:A (z W5)<=A (z ZP):=ex.aa.size;have qr:(q_++[nm]).length=L+1:=by rw[cM,AI,<-g.i]
  have ZN:=ld.rmk;rw[qr] at ZN;obtain⟨P,f,cur7,rfl,ZO⟩:=ZN.2.resolve_left (λh=>by omega);have hcap7:L+1<=f:=ZO.2.2.1;have R6:=ae (ownsRow_pop (n:=L) (xs:=bO q_) (last:=[U nm]) (by rw[bO,PJ,Nat.mul_one];exact g.c) (by simpa[bO] using ZN));clear ld ph ro sm n8 ex ZO ZN qr;obtain⟨hml6,-,-,-,l,-,mf⟩:=M6.ab.K;have JP:=mf 3;clear mf;go_wp2_with fail;have hwr:IntKind.i64.wrap (L:Int)=(L:Int):=wrapM (by omega) (by omega);have hI0:(0:Int)<=(L:Int):=by omega
  have hI1:(L:Int)<=(f:Int):=by omega
  refine aI (λV=>ZW V (Q mb 3 Z)=T (Y (T (Q P 0 Z)) (L+1) f)) 14 (by kernel_rfl) ?_;have m:Hid (ZP.drew.cell? (Q mb 3 Z)=T (Y (T (Q P 0 Z)) (L+1) f)):=l;iterate 10
   refine aO 0 (v:=?_) rfl rfl (by kernel_rfl) (λ_ _ _ h=>h) rfl ?_ m ?_;rotate_left
   ·(intro wz s0;go_simp)
    (try with_reducible rfl)
   (try simp only[Act.put,yh])
  refine fs (i:=10) (v:=J I (L:Int)) rfl (by kernel_rfl) (by kernel_rfl) (by kernel_rfl) (by kernel_rfl) (λ_ _ _ h=>h) rfl ?_ m ?_;{intro wz s0;go_simp}
  (try simp only[Act.put,yh])
  refine fs (i:=11) (v:=Y (T (Q P 0 Z)) L f) rfl (by kernel_rfl) (by kernel_rfl) (by kernel_rfl) (by kernel_rfl) (λ_ _ _ h=>h) rfl ?_ m ?_;{intro wz s0;go_simp}
  (try simp only[Act.put,yh])
  iterate 2
   refine bV 12 rfl rfl (by kernel_rfl) λK b=>?_;go_simp;refine b _ _ (λ_=>m) ?_;clear b K
   (try simp only[Act.put,yh])
  have M7:=ae (M6.mked (w':=ZP) (nk':=ZV q_) (ks':=bO q_) (v:=Y (T (Q P 0 Z)) L f) (World.grownBy.refl _ _) (by rw[<-g.i];exact R6));refine ai (i:=14) rfl (by kernel_rfl) λK b=>?_;go_simp;refine b _ _ (λh=>absurd rfl h) ?_;clear b K m l JP
  (try simp only[Act.put])
  refine ba (by kernel_rfl) ?_ _;have D7:Hid (Below (A (z (ZU ZP (Q mb 3 Z) (Y (T (Q P 0 Z)) L f)))) (ZU ZP (Q mb 3 Z) (Y (T (Q P 0 Z)) L f)) (ZU ZP (Q mb 3 Z) (Y (T (Q P 0 Z)) L f)).drew):=br.drew;go_wp2_with fail;go_ret;rw[HT.i];have M8:=M7.1.aa D7.i ly;have K8:=M7.2.to (KX.q (X:=XN) D7 ly M7.1.lt);obtain⟨g1,-,-,-,-,g6⟩:=GD.i;exact⟨mv,q_++[nm],G1,V1,_,JL,v1,eb,rfl,.inr rfl,rfl,M8,E6.kx K8 (λh=>h) (λ_ _ h=>h),rfl,(jB g1).2,(jB g1).1,g6,F6,DQ,λk y=>nX (by omega) (V6 k y),X6.P (by omega),K6.to K8⟩
 {obtain⟨u,rfl,g1,g2⟩:=o;go_wp2_with fail;rw[HT.i];exact⟨rfl,u,rfl,g1,K5.aa.k g2⟩};{obtain⟨rfl,g2⟩:=o;go_wp2_with fail;rw[HT.i];exact⟨rfl,rfl,K5.aa.k g2⟩}
end
def iJ (g:B_)(n:Nat)(t:F_):aF g n t=(atI g n t).isSome:=by unfold aF atI;rw[OJ,List.find?_isSome,TH]
def CK{g:B_}{n i j:Nat}{t:F_}(o:aK g n=ZH)(l:atI g n t=T j)(hi:i<=n)(h1:∀m,m<i->aC (g m) t=ZH)(h2:∀m,i<=m->m<n->aC (g m) t=ZA):i=j:=by have f:=kU o hi h1 h2;rw[iJ,l,Option.isSome_some] at f;have b:=f.c;rw[j6,nD] at b;have h:=bu l;exact asc_one o b.1 h.1 b.2 (by rw[h.2];simp)
section
variable {w0:E}{S:x_}{a0 a1:O_}{c0 c1 mb mp:Nat}{mk md:ZB}{q_:List F_}{jh:List zt}{G:F_->Nat}{V:F_->ZB}
def ti{b:E}{s0 s1:ZB}(h:MI w0 S mb mp s0 s1 w q_ q_ jh G V mk md)(o:PG S q_ jh)(p:aS jh nm=Z)(hb:Below (A (z w)) w b)(f:Int)(i:f≠3)(tx:F_):dQ w0 S mb mp s0 s1 q_ jh G V w nm (ZI (.pointer (T (Q (A (z b)) 0 Z)))) (b.alloc (N #[U nm,J I f,J I 0,U tx,Y Z 0 0,Y Z 0 0,Y Z 0 0,J I 0] 156)) (ee jh ⟨nm,f,0,tx,0,[]⟩):=by
 have h1:=h.aa hb ly;have g:=(BS b).alloc ly (N #[U nm,J I f,J I 0,U tx,Y Z 0 0,Y Z 0 0,Y Z 0 0,J I 0] 156);refine⟨jh,q_,G,V,mk,md,Y Z 0 0,A (z b),rfl,.inl rfl,rfl,h1.aa g ly,⟨⟨Y Z 0 0,gM _ _,?_⟩,h1.lt,⟨rfl,.inl ⟨rfl,rfl⟩⟩⟩,rfl,dI p,o,λl n=>absurd n nj,λy m=>?_,hb.size,λk i=>(by cases i),Ext.refl _ _ _ _,(KX.q (X:=XN) hb ly h.lt).to (KX.q g ly h1.lt)⟩;{rw[oF,eI i]};{obtain⟨act,j,_⟩:=(h1.W y m).ad;have:=ah j;omega}
def CO (C:Ctx w0 S a0 c0 a1 c1)(w:E)(nm:F_)(i:Nat)(h:MI w0 S mb mp (Y a0 S.n0 c0) (Y a1 S.n1 c1) w q_ q_ jh G V mk md)(s:PG S q_ jh)(q:aS jh nm=Z)(h2:atI (nm0 S.f0) S.n0 nm=T i):Calls Pg 167 #[.pointer (T (Q mb 0 Z)),U nm] w λe D=>dQ w0 S mb mp (Y a0 S.n0 c0) (Y a1 S.n1 c1) q_ jh G V w nm e D (ee jh ⟨nm,1,0,(S.f0 i).H,0,[]⟩):=by
 obtain⟨g,m0,t,-⟩:=h.ab.K;have o:=ae h;have ZY:=ae s;have ZT:=ae q;have ZX:=ae h2;have n:=ae C;have u:aF (nm0 S.f0) S.n0 nm=ZH:=by rw[iJ,h2];rfl
 have p:i<S.n0:=(bu h2).1;have hsm:=C.ok.bb;obtain⟨bs,os,rfl,f⟩:=C.src.resolve_left (by omega);have b:=ae f;clear h s q h2 C f;go_enter func167,ntmps167;go_wp2_with fail;refine(fe _ S.n0 c0 a1 S.n1 c1 S.f0 nm w (by omega) (n.src.aa o.ak ly) n.ok.asc0).P ?_;rintro e w1⟨j,rfl,r,x,y,l⟩;obtain rfl:j=i:=CK n.ok.asc0 ZX r x y;have B:=ae l;have m:=ae (o.aa l ly);obtain⟨q0,q1⟩:=(b.aa m.ak ly).2 j p;have hbs:=(b.aa m.ak ly).1;clear l x y r m0 t g;obtain⟨g,m0,t,-⟩:=m.ab.K;rw[u];have hI:(j:Int)<S.n0:=by omega
 go_wp2_with fail;go_ret;exact ti o ZY ZT B 1 (by decide) _
def Ap (C:Ctx w0 S a0 c0 a1 c1)(w:E)(nm:F_)(h:MI w0 S mb mp (Y a0 S.n0 c0) (Y a1 S.n1 c1) w q_ q_ jh G V mk md)(r:PG S q_ jh)(t:aS jh nm=Z)(h2:atI (nm0 S.f0) S.n0 nm=Z)(q:atI (nm1 S.f1) S.n1 nm=Z):Calls Pg 167 #[.pointer (T (Q mb 0 Z)),U nm] w λe ZX=>dQ w0 S mb mp (Y a0 S.n0 c0) (Y a1 S.n1 c1) q_ jh G V w nm e ZX (ee jh ⟨nm,2,0,⟨#[]⟩,0,[]⟩):=by
 obtain⟨f,m0,m,-⟩:=h.ab.K;have n:=ae h;have D:=ae r;have B:=ae t;have g:=ae C;have s:aF (nm0 S.f0) S.n0 nm=ZA:=by rw[iJ,h2];rfl
 have i:aF (nm1 S.f1) S.n1 nm=ZA:=by rw[iJ,q];rfl
 have hsm:=C.ok.bb;clear h r t h2 q C;go_enter func167,ntmps167;go_wp2_with fail;refine(fe _ S.n0 c0 a1 S.n1 c1 S.f0 nm w (by omega) (g.src.aa n.ak ly) g.ok.asc0).P ?_;rintro e y⟨j,rfl,l,o,p,b⟩;have x:=ae b;have u:=ae (n.aa b ly);clear b o p l m0 m f;obtain⟨f,m0,m,-⟩:=u.ab.K;rw[s];go_wp2_with fail;refine(fU a0 S.n0 c0 _ S.n1 c1 S.f1 nm y (by omega) (g.w.aa u.ak ly) g.ok.asc1).P ?_;rintro e w2⟨j2,rfl,l,o,p,b⟩;have ZY:=ae (x.k (b.P x.size));clear b o p l m0 m f;rw[i];go_wp2_with fail;go_ret;exact ti n D B ZY 2 (by decide) _
def CQ (C:Ctx w0 S a0 c0 a1 c1)(n:Nat)(HL:∀m,n=m+1->jX w0 S mb mp (Y a0 S.n0 c0) (Y a1 S.n1 c1) m)(w:E)(nm:F_)(tg:Nat)(bt:ZV q_+n=60)(h:MI w0 S mb mp (Y a0 S.n0 c0) (Y a1 S.n1 c1) w q_ q_ jh G V mk md)(hp:PG S q_ jh)(s:eX S q_ jh 1)(hn:aA nm=ZH)(h0:aS jh nm=Z)(h1:atL q_ nm=Z)(h2:atI (nm0 S.f0) S.n0 nm=Z)(B:atI (nm1 S.f1) S.n1 nm=T tg):Calls Pg 167 #[.pointer (T (Q mb 0 Z)),U nm] w λe l=>dQ w0 S mb mp (Y a0 S.n0 c0) (Y a1 S.n1 c1) q_ jh G V w nm e l (nR S n q_ jh nm tg):=by
 obtain⟨ZY,m0,ZQ,-⟩:=h.ab.K;have HM:=ae h;have D:=ae C;have H3:=ae B;have ph:aF (nm0 S.f0) S.n0 nm=ZA:=by rw[iJ,h2];rfl
 have ZM:aF (nm1 S.f1) S.n1 nm=ZH:=by rw[iJ,B];rfl
 have ZO:tg<S.n1:=(bu B).1;have qr:(S.f1 tg).e=nm:=(bu B).2;have hsm:=C.ok.bb;obtain⟨K,os,rfl,H⟩:=C.w.resolve_left (by omega);have i:=ae H;have HX:Hid (∀(o:E) (a:O_) (j_:Nat),Below (A (z w)) w o->SlIns w0 a (S.f1 tg).h (S.f1 tg).u->Calls Pg 192 #[.pointer (T (Q mb 0 Z)),ZJ #[U nm,Y a (S.f1 tg).h j_]] o λe l=>dQ w0 S mb mp (Y a0 S.n0 c0) (Y (T (Q K os Z)) S.n1 c1) q_ jh G V w nm e l (nR S n q_ jh nm tg)):=by
  intro o a j_ hb t;have hw:∀e l res,dQ w0 S mb mp (Y a0 S.n0 c0) (Y (T (Q K os Z)) S.n1 c1) q_ jh G V o nm e l res->dQ w0 S mb mp (Y a0 S.n0 c0) (Y (T (Q K os Z)) S.n1 c1) q_ jh G V w nm e l res:=by
   intro e l res r;have ZP:Below (A (z w0)) w o:=hb.P h.lt;rcases res with⟨M,x⟩|c|d;{obtain⟨y,mm,G',V',W,ZL,v',eb,f,g,ZT,q4,q5,q6,q7,q8,q9,fd,mv,la,ex,n8⟩:=r;exact⟨y,mm,G',V',W,ZL,v',eb,f,g,ZT,q4,q5,q6,q7,q8,q9,fd,nX hb.size mv,λk hk=>nX hb.size (la k hk),ex.P hb.size,(KX.q (X:=XN) hb ly h.lt).to n8⟩};{obtain⟨u,f,g,ZT⟩:=r;exact⟨u,f,g,ZP.k ZT⟩};{obtain⟨f,ZT⟩:=r;exact⟨f,ZP.k ZT⟩}
  cases n with
  |zero =>refine(xE o a _ j_ nm (h.aa hb ly) (by omega)).P ?_;rintro e l⟨f,g⟩;exact hw _ _ _ ⟨f,g.P (nX h.lt hb.size)⟩
  |succ m =>exact(Ao C m (HL m rfl) o a j_ tg nm bt (h.aa hb ly) hp s hn h0 h1 B t).P λe l q=>hw _ _ _ q
 obtain⟨R,hR⟩:∃R,R=nR S n q_ jh nm tg:=⟨_,rfl⟩
 rw[<-hR] at HX ⊢;clear h hp h0 h1 h2 B C H s HL hn hR;go_enter func167,ntmps167;go_wp2_with fail;refine(fe _ S.n0 c0 _ S.n1 c1 S.f0 nm w (by omega) (D.src.aa HM.ak ly) D.ok.asc0).P ?_;rintro e w1⟨j,rfl,L,O,P,ZX⟩;have B1:=ae ZX;have M1:=ae (HM.aa ZX ly);clear ZX O P L m0 ZQ ZY;obtain⟨ZY,m0,ZQ,-⟩:=M1.ab.K;rw[ph];go_wp2_with fail;refine(fU a0 S.n0 c0 _ S.n1 c1 S.f1 nm w1 (by omega) (D.w.aa M1.ak ly) D.ok.asc1).P ?_;rintro e o⟨ZS,rfl,L,O,P,ZX⟩;obtain rfl:ZS=tg:=CK D.ok.asc1 H3 L O P;have B2:=ae (B1.k (ZX.P B1.size));have ZR:=ae (HM.aa B2 ly);clear ZX O P L m0 ZQ ZY;obtain⟨ZY,m0,ZQ,-⟩:=ZR.ab.K;obtain⟨q0,aa,ca,f,-⟩:=(i.aa ZR.ak ly).2 ZS ZO;obtain⟨-,aa',ca',ZN,t⟩:=i.2 ZS ZO;have aq:=i.1;have e1:=(ZR.ak.O (p:=(Q K (os+ZS*2+1) Z)) aq).k ZN;rw[f] at e1;simp only[ND,IN,TX] at e1;obtain⟨rfl,rfl⟩:=e1;have n9:=ae t;have hbs:=(i.aa ZR.ak ly).1;rw[qr] at q0;clear ZN t;rw[ZM];have hI:(ZS:Int)<S.n1:=by omega
 go_wp2_with fail;refine(HX o aa ca B2 n9).P ?_;intro e w3 b;rcases R with⟨M,x⟩|c|d;{have ld:=ae b;obtain⟨y,mm,G',V',W,ZL,v',eb,-,-,rfl,-⟩:=b;go_wp2_with fail;go_ret;exact ld};{obtain⟨u,rfl,f,g⟩:=b;go_wp2_with fail;exact⟨rfl,u,rfl,f,g⟩};{obtain⟨rfl,g⟩:=b;go_wp2_with fail;exact⟨rfl,rfl,g⟩}
end
section
variable {w0:E}{S:x_}{a0 a1:O_}{c0 c1 mb mp:Nat}{mk md:ZB}{q_:List F_}{jh:List zt}{G:F_->Nat}{V:F_->ZB}
def Aq{s0 s1:ZB}{m:E}(p:A (z w0)<=A (z w))(hb:Below (A (z w)) w m):∀e l res,dQ w0 S mb mp s0 s1 q_ jh G V m nm e l res->dQ w0 S mb mp s0 s1 q_ jh G V w nm e l res:=by
 intro e l res b;have i:Below (A (z w0)) w m:=hb.P p;rcases res with⟨made',x⟩|c|d;{obtain⟨h,L,H,ZR,t,y,ZX,C,f,j,g,ZY,B,D,ZS,M,ZT,n,q,o,s,r⟩:=b;exact⟨h,L,H,ZR,t,y,ZX,C,f,j,g,ZY,B,D,ZS,M,ZT,n,nX hb.size q,λk K=>nX hb.size (o k K),s.P hb.size,(KX.q (X:=XN) hb ly p).to r⟩};{obtain⟨u,f,j,g⟩:=b;exact⟨u,f,j,i.k g⟩};{obtain⟨f,g⟩:=b;exact⟨f,i.k g⟩}
def F0 (w:E)(nm:F_)(R:Out zt)(h:MI w0 S mb mp (Y a0 S.n0 c0) (Y a1 S.n1 c1) w q_ q_ jh G V mk md)(hml60:ZV q_<=60)(hn:nm.size<=60)(h0:aS jh nm=Z)(h1:atL q_ nm=Z)(j:∀g x,R=.inl (g,x)->ZV g<=60000)
  (HF:∀W,Below (A (z w)) w W->Calls Pg 167 #[.pointer (T (Q mb 0 Z)),U nm] W λe H=>dQ w0 S mb mp (Y a0 S.n0 c0) (Y a1 S.n1 c1) q_ jh G V w nm e H R) :
  Calls Pg 134 #[.pointer (T (Q mb 0 Z)),U nm] w λe H=>vT w0 S mb mp (Y a0 S.n0 c0) (Y a1 S.n1 c1) q_ jh G V w e H R:=by
 obtain⟨i1,hi,n8,la,fd⟩:=qP FQ;have HV:=ae (show(dK G q_ jh nm.toList).getD (ZJ #[J I 0,.pointer Z])=ZJ #[J I 0,.pointer Z] by rw[iO h0,h1];rfl);have qr:=ae (show(dK G q_ jh nm.toList).isSome=ZA by rw[iO h0,h1];rfl);have HM:=ae h;have ro:=ae HF;have n9:=ae j;obtain⟨hl,-,-,c2,-,-,-⟩:=h.ab.K;have ZL:nm.size<=maxLen:=by unfold maxLen;omega
 have hz:=pH;have B1:=ae ((BS w).alloc ly (N #[J I 0,.pointer Z] 240));clear h h0 h1 HF j;go_enter func134,ntmps134
 go_wp2_with (first
  |(at_lookup;refine jk _ rfl _ _ 200 rfl 240 TW (hz _) mp _ _ rfl HM.map nm rfl ZL _ HV ZA qr ?_)
  |fail)
 clear c2;generalize World.alloc w _=W1 at B1 ⊢;refine(ro W1 B1).P ?_;intro e w1 f;rcases R with⟨g,x⟩|c|d
 ·obtain⟨b,mm,G1,V1,mk1,md1,v1,ZT,rfl,s,rfl,p,ZP,ZN,L,ZM,has,ZQ,ur,M,O,ZO⟩:=f;have ph:ZV b<=60000:=by have:=n9.i _ _ rfl;simp at this;omega
  have hmml:ZV mm<=ZV q_+1:=by rcases s with rfl|rfl<;>simp
  obtain⟨ap,cp,rfl⟩:=bM p.X;have M1:=ae p;have E1:=ae ZP;have ZY:=ae ZN;have sm:=ae L;have P1:=ae ZM;have mv:=ae has;have F1:=ae ZQ;have th:=ae M;have X1:=ae O;have K1:=ae ZO;have MM:=ae s;obtain⟨m,r⟩:∃m,m=ZV b:=⟨_,rfl⟩
  have l:=ae r;obtain⟨aq,-,-,m2,-,D,-⟩:=p.ab.K;rw[<-r] at D ph;clear p ZP ZN L ZM has ZQ M O ZO s r
  go_wp2_with (first
   |(at_mapUpdate;refine Al _ rfl _ _ _ 200 rfl 240 TW mp _ _ rfl M1.map (by unfold maxLen;have:=l.i;omega) nm (ZJ #[J I 0,.pointer (T (Q ZT 0 Z))]) rfl rfl ZL ?_;intro ZS ZR K;have C:=ae (M1.mapped K ZR);clear ZR K m2 D aq;obtain⟨aq,-,-,-,-,D,mf⟩:=C.1.ab.K;rw[<-l.i] at D;have AB:=ae ((BS ZS).alloc ly (N #[.pointer (T (Q ZT 0 Z))] 153));have i:=ae (C.1.aa AB ly);have RD:=ae (by have h:=i.X;rw[<-l.i] at h;exact h))
   |(at_builtin;refine DN _ rfl (.tmp 49) (.tmp 51) 150 rfl (A (z w0)) 153 i1 (.pointer Z) 1 8 underlying150 hi n8 la fd rfl (by decide) (Y ap m cp) m (jW G1 b) (by simp[Act.eval]) RD.i (Q (A (z ZS)) 0 Z) 1 1 [.pointer (T (Q ZT 0 Z))] (by simp[Act.eval]) rfl (CJ ZS _ _) (by simp[Value.oneCell']) (by unfold maxLen;omega) (by omega) i.lt ?_;intro v3 w3 o q ex;have O3:=ae o;have B:=ae q;obtain⟨g4,ZX,cur4,rfl,ld⟩:=o.2.resolve_left (λh=>by omega);clear ld o q ex;have t:Hid (T mb≠(Value.slice ap m cp).ownBlock):=(λe=>by obtain⟨_,_,cs,hc⟩:=af RD mb e.c;exact absurd (ar i.ab hc) (by decide));have s4:=(cq (a:=(Q mb 4 Z)) (B.p mb (ah i.ab) t)).k i.ab.K.2.2.2.2.2.1;have f4:=(NG (a:=(Q mb 4 Z)) (B.p mb (ah i.ab) t)).k (i.ab.K.2.2.2.2.2.2 4);have hml3:mb<A (z w3):=lj (ah i.ab) B.size)
   |fail)
  go_ret;have h5:=i.mded (w':=w3) (np':=ZV b+1) (ps':=jW G1 b++[.pointer (T (Q ZT 0 Z))]) (v:=Y (T (Q g4 0 Z)) (m+1) ZX) (by rw[<-l.i];exact B) (by rw[<-l.i];exact O3);have bt:KX (A (z w0)) XN w1 (ZU w3 (Q mb 4 Z) (Y (T (Q g4 0 Z)) (m+1) ZX)):=(C.2.to (KX.q (X:=XN) AB ly C.1.lt)).to h5.2;have P:aS b nm=Z:=SE.2 λy hy=>by intro e2;exact sm y hy (Qv e2)
  have h6:=MIg.added (x:=x) h5.1 P1 P ZY MM (by omega) (E1.kx bt (λh=>h) (λ_ _ h=>h)) F1 mv;exact⟨_,_,_,_,(by rw[ZY.i,ft];rfl),h6,X1.k (Ie (n:=A (z w)) P ZY ur th) ly,K1.to bt⟩
 {obtain⟨u,rfl,q1,q2⟩:=f;go_wp2_with fail;exact⟨rfl,u,rfl,q1,q2⟩};{obtain⟨rfl,q2⟩:=f;go_wp2_with fail;exact⟨rfl,rfl,q2⟩}
def F3 (C:Ctx w0 S a0 c0 a1 c1):∀n,jX w0 S mb mp (Y a0 S.n0 c0) (Y a1 S.n1 c1) n:=by
 have o:∀n,(∀m,n=m+1->jX w0 S mb mp (Y a0 S.n0 c0) (Y a1 S.n1 c1) m)->jX w0 S mb mp (Y a0 S.n0 c0) (Y a1 S.n1 c1) n:=by
  intro n q q_ jh G V mk md w nm y h p b hn;have g:=nS hn;have j:=iq S n q_ jh nm;rw[jT] at j ⊢;unfold dB at j ⊢;cases h0:aS jh nm with
  |some e =>refine(FM w nm h g e h0).P ?_;rintro r s⟨rfl,hb⟩;exact⟨G,V,mk,md,rfl,h.aa hb ly,Ext.refl _ _ _ _,KX.q hb ly h.lt⟩
  |none =>
   cases h1:atL q_ nm with
   |some i =>refine(xD w nm h g (by omega) h0 i h1).P ?_;rintro r s⟨u,rfl,D,ZX⟩;exact⟨u,rfl,aE D h.lt,ZX.P h.lt⟩
   |none =>
    rw[h0] at j;simp only[h1] at j;dsimp only;refine F0 w nm _ h (by omega) g h0 h1 (λl x B=>?_) λW ZY=>?_;{have:=j l x B;unfold eX at b;unfold fO at this;omega}
    ·refine Calls.mono ?_ λe s=>Aq h.lt ZY e s _;have f:=h.aa ZY ly;unfold eW;cases h2:atI (nm0 S.f0) S.n0 nm with
     |some i=>exact CO C W nm i f p h0 h2
     |none =>
      cases h3:atI (nm1 S.f1) S.n1 nm with
      |some t=>exact CQ C n q W nm t y f p b hn h0 h1 h2 h3
      |none=>exact Ap C W nm f p h0 h2 h3
 intro n;induction n with
 |zero=>exact o 0 λm e=>by omega
 |succ n ZT=>exact o (n+1) λm e=>by cases e;exact ZT
end
