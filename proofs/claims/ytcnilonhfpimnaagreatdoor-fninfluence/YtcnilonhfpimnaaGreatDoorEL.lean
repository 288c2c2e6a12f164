import Derived.Test.YtcnilonhfpimnaaGreatDoorEK
import Derived.WalkSmall
set_option linter.all false
set_option maxRecDepth 1000000
set_option maxHeartbeats 8000000
open Go renaming Addr.mk->T,Value.slice->Y,Value.string->U,Value.int->J,Value.agg->ZJ,Obj.cells->N,IntKind.i64->I,World->E,Value->ZB,TypeId->ZK,Ending.returned->ZI,World.heap->A,World.cell?->ZW,World.setCell->ZU,Proofs.Tryz.prog->Pg,Act.put->p_,Calls->Qw
open Option renaming none->Z,some->Q
open Bool renaming false->ZA,true->ZH
open Array renaming size->z
open List renaming length->ZV
namespace Go.Proofs.YtcnilonhfpimnaaGreatDoor.Vp
open Tryz RowKit Ca Go.Maps
variable {w:E}{nm:F_}
def vY{i:Array Oper}{o:Oper}{a:Act}{K:Act->E->Prop}{ZO:Exit->Act->E->Prop}{ZT:Prop}(B:o.guard=Z)(m x v:Operand)(t:ZK)(q:o.op=Op.mapUpdate t m x v)(e:ZK)(ZX:Pg.underlying t=Q (.map 9 e))(b n:Nat)(G:List UInt8->Option ZB)
  (H:a.eval m=.map (Q b)) (l:MapN w b n G) (hn:n<maxLen) (g:F_) (f:ZB) (ZY:a.eval x=U g) (y:a.eval v=f) (ZR:g.size<=maxLen)
  (u:∀h,MapN h b (n+1) (λs=>if s=g.toList then Q f else G s)->w.grownBy h (Q b)->K (a.put o.dst undef) h) :
  if Region.wanted o (yielded i a.tmps)=ZH then Oper.wp Pg o a w K ZO else ZT:=by
 have r:Region.wanted o (yielded i a.tmps)=ZH:=by simp[Region.wanted,B]
 rw[eT r];obtain⟨D,p,C⟩:=l;obtain⟨h,j,r1,ZS⟩:=p.update rO ZX hn (QS ES ZR) (val:=f) (d:=.held f) (ps:=[]) rfl;unfold Oper.wp;simp[execOp,q,H,ZY,y,j,Result.andThen];refine u h ⟨_,r1,?_⟩ ZS;have:=vS (x:=g.toList) (v:=f) p.isMap C;rw[NJ] at this ⊢;exact this
def CJ (w:E)(v:ZB)(t:ZK):∀j u,[v][j]?=Q u->(w.alloc (N #[v] t)).cell? (((T (z (A w)) 0 Z):Addr).add j)=Q u:=by
 intro j u h;rw[addr_add];have b:j=0:=by
  rcases OR j 1 with f|f;{omega};{rw[NT (by simp;omega)] at h;cases h}
 subst b;simp at h;subst h;simp
def wrapM{ZX:Int}(h0:0<=ZX)(h1:ZX<=1048576):IntKind.i64.wrap ZX=ZX:=by rw[nL];omega
def dQ (w0:E)(S:xl)(mb mp:Nat)(s0 s1:ZB)(y_:List F_)(q_:List k_)(G:F_->Nat)(V:F_->ZB)(w:E)(nm:F_)(e:Ending)(f:E):Out k_->Prop
 |.inl (made',x)=>∃b i h n j m o g,made'=b++[x]/\(i=y_\/i=y_++[nm])/\e=ZI (.pointer (Q (T g 0 Z)))/\MI w0 S mb mp s0 s1 f i y_ b h n j m/\EntAt w0 S h f g o x/\x.e=nm/\(∀y∈b,y.e≠nm)/\PG S y_ b/\(∀l∈x.D,l.ask=ZH->∃y∈b,y.e=l.e)/\(∀y∈b,h y.e≠g)/\(z (A w))<=g/\(∀k,o.ownBlock=Q k->z (A w)<=k)/\Ext (z (A w)) q_ b G h V n/\KX (z (A w0)) XN w f
 |.inr (.inl c)=>∃v,e=.panicked [{ v:=.iface 220 (ZJ #[v]),recovered:=ZA }]/\f.ownsRow (z (A w0)) 9 1 v (ZV c) (bO c)/\Below (z (A w0)) w f
 |.inr (.inr d)=>e=.panicked [{ v:=.iface 222 (ZJ #[U d]),recovered:=ZA }]/\Below (z (A w0)) w f
section
variable {w0:E}{S:xl}{a0 a1:O_}{c0 c1 mb mp:Nat}{mk md:ZB}{y_:List F_}{q_:List k_}{G:F_->Nat}{V:F_->ZB}
def xE (w:E)(a:O_)(yh j_:Nat)(nm:F_)(h:MI w0 S mb mp (Y a0 S.n0 c0) (Y a1 S.n1 c1) w y_ y_ q_ G V mk md)(b:ZV y_=60):Qw Pg 178 #[.pointer (Q (T mb 0 Z)),ZJ #[U nm,Y a yh j_]] w λe j=>e=.panicked [{ v:=.iface 222 (ZJ #[U nm]),recovered:=ZA }]/\Below (z (A w)) w j:=by
 obtain⟨ak,ck,rfl⟩:=bM h.rmk;have g:=ae ((BS w).alloc ly (N #[U nm,Y a yh j_] 86));have f:=ae (h.aa g ly);obtain⟨hml,-,-,-,i,-,-⟩:=f.ab.y;have k0:(w.alloc (N #[U nm,Y a yh j_] 86)).cell? (T (z (A w)) 0 Z)=Q (U nm):=by simp
 rw[b] at i;clear h f b;go_enter func178,ntmps178;go_wp2_with fail;exact⟨rfl,rfl,g⟩
def Ao (C:Ctx w0 S a0 c0 a1 c1)(n:Nat)(HL:jX w0 S mb mp (Y a0 S.n0 c0) (Y a1 S.n1 c1) n)(w:E)(a:O_)(j_ tg:Nat)(nm:F_)(hlen:ZV y_+(n+1)=60)(h:MI w0 S mb mp (Y a0 S.n0 c0) (Y a1 S.n1 c1) w y_ y_ q_ G V mk md)(hp:PG S y_ q_)(r:eX S y_ q_ 1)(hn:aA nm=ZH)(h0:aS q_ nm=Z)(h1:atL y_ nm=Z)(h2:atI (nm1 S.f1) S.n1 nm=Q tg)(n8:SlIns w0 a (S.f1 tg).h (S.f1 tg).q):Qw Pg 178 #[.pointer (Q (T mb 0 Z)),ZJ #[U nm,Y a (S.f1 tg).h j_]] w λe w'=>dQ w0 S mb mp (Y a0 S.n0 c0) (Y a1 S.n1 c1) y_ q_ G V w nm e w' (nR S (n+1) y_ q_ nm tg):=by
 obtain⟨i1,hi,Id,Fm,JL⟩:=qP FP;obtain⟨ZY,B,rfl⟩:=bM h.rmk;have Fk:z (A w0)<=z (A w):=h.lt;have JK:nm.size<=maxLen:=by have:=nS hn;unfold maxLen;omega
 have A0:=ae ((BS w).alloc ly (N #[U nm,Y a (S.f1 tg).h j_] 86));have kt:Hid ((w.alloc (N #[U nm,Y a (S.f1 tg).h j_] 86)).heap[z (A w)]?=Q (N #[U nm,Y a (S.f1 tg).h j_] 86 (0,0))):=gM _ _;have M0:=ae (h.aa A0 ly);have CC:=ae C;have JH:=ae HL;have HP:=ae hp;have HN:=ae hn;have H0:=ae h0;have H1:=ae h1;have H2:=ae h2;have JG:=ae n8;have hmade:ZV q_<=50000:=by unfold eX at r;omega
 have JJ:=ae r;clear h C HL hp hn h0 h1 h2 n8 r;obtain⟨L,hL⟩:∃L,L=ZV y_:=⟨_,rfl⟩
 have g:=ae hL;have hL60:L<60:=by omega
 obtain⟨ZT,-,-,m2,j,-,-⟩:=M0.ab.y;obtain⟨-,p,-⟩:=(show(w.alloc (N #[U nm,Y a (S.f1 tg).h j_] 86)).cell? (T (z (A w)) 0 Z)=Q (U nm)/\(w.alloc (N #[U nm,Y a (S.f1 tg).h j_] 86)).cell? (T (z (A w)) 0 Z)=Q (U nm)/\True from⟨by simp,by simp,trivial⟩)
 rw[<-hL] at j;clear hL;have hL60i:((L:Int) == 60)=ZA:=by simp;omega
 go_enter func178,ntmps178;go_wp2_with fail;generalize World.alloc w _=W0 at A0 kt M0 m2 j ZT p ⊢;refine wp_region_held_drew (S:=λV=>ZW V (T mb 2 Z)=Q (.map (Q mp))/\ZW V (T mb 3 Z)=Q (Y ZY L B)/\ZW V (T (z (A w)) 0 Z)=Q (U nm)) (by kernel_rfl) ⟨m2,j,p⟩ λhS=>?_;have m:=ae hS;clear hS;iterate 12
  refine aN 0 (v:=?_) rfl rfl (by kernel_rfl) (λ_ _ _ h=>h) rfl ?_ m ?_;rotate_left
  ·(rintro wz⟨s0,s1,s2⟩;go_simp)
   (try with_reducible rfl)
  (try simp only[p_,z_])
 have MD:=ae (M0.aa (a8 _ W0).drew ly);refine aL (i:=12) rfl (by kernel_rfl) λK b=>?_;refine vY rfl _ _ _ 178 rfl 225 TW mp (2*(ZV q_)+ZV y_) (dK G y_ q_) rfl MD.map (by unfold maxLen;omega) nm (ZJ #[J I (L:Int),.pointer Z]) rfl rfl JK ?_;intro l sm th;have ZL:=ae (MD.mapped (cnt':=2*(ZV q_)+(y_++[nm]).length) (F':=dK G (y_++[nm]) q_) th ((sm.congr λs=>by rw[<-Am H0.i H1.i s,<-g.i]).P (by simp;omega)));clear sm th;have H:=ae ZL.1;have K1:Hid (KX (z (A w0)) XN w l):=(KX.l (X:=XN) (A0.k ((a8 _ W0).drew.P A0.size)) ly Fk).to ZL.2;have D:Hid (l.heap[z (A w)]?=Q (N #[U nm,Y a (S.f1 tg).h j_] 86 (0,0))):=(ZL.2.ad _ _ _ _ kt (by decide) (by decide) (by decide) λh=>h).k kt;clear m m2 j p ZT ZL;obtain⟨ZT,-,-,m2,j,-,-⟩:=H.ab.y;rw[<-g.i] at j;have JO:z (A w)<z (A l):=ah D.i;have p:ZW l (T (z (A w)) 0 Z)=Q (U nm):=by simp[World.cell?,D.i]
 refine b _ _ ⟨m2,j,p⟩ ?_;clear b K
 (try simp only[p_])
 refine wpAnyH_done (by kernel_rfl) ?_ _;clear MD M0 kt;go_wp2_with fail;have SQ:Hid (∀V:E,(∀k,k<z (A l)->Q k≠(Value.slice ZY L B).ownBlock->V.heap[k]?=l.heap[k]?)->ZW V (T mb 3 Z)=Q (Y ZY L B)/\ZW V (T (z (A w)) 0 Z)=Q (U nm)):=λV hV=>by
  have ZX:Q mb≠(Value.slice ZY L B).ownBlock:=λe=>by obtain⟨_,_,cs,hc⟩:=af H.rmk mb (by rw[<-g.i];exact e.c);exact absurd (ar H.ab hc) (by decide)
  have Bk:Q (z (A w))≠(Value.slice ZY L B).ownBlock:=λe=>by obtain⟨_,_,cs,hc⟩:=af H.rmk (z (A w)) (by rw[<-g.i];exact e.c);exact absurd (ar D hc) (by decide)
  exact⟨(cq (a:=(T mb 3 Z)) (hV mb ZT ZX)).k j,(cq (a:=(T (z (A w)) 0 Z)) (hV (z (A w)) JO Bk)).k p⟩
 have m:=ae (SQ l.drew (λk t _=>rfl));refine aI (λV=>ZW V (T mb 3 Z)=Q (Y ZY L B)/\ZW V (T (z (A w)) 0 Z)=Q (U nm)) 11 (by kernel_rfl) ?_;clear m2 j p;iterate 7
  first|refine aO 0 (v:=?_) rfl rfl (by kernel_rfl) (λ_ _ _ h=>h) rfl ?_ m ?_|refine aO 5 (v:=?_) rfl rfl (by kernel_rfl) (λ_ _ _ h=>h) rfl ?_ m ?_
  rotate_left
  ·(rintro wz⟨s0,s1⟩;go_simp)
   (try with_reducible rfl)
  (try simp only[p_,z_])
 refine ai (i:=7) rfl (by kernel_rfl) λK b=>?_;go_simp;have AB:=ae (((BS l).drew).alloc ly (N #[U nm] 9));have P:=ae (H.aa AB ly);refine b _ _ (λ_=>SQ _ (λk t _=>AB.p k t)) ?_;clear b K
 (try simp only[p_,z_])
 have RK:=ae (by have h:=P.rmk;rw[<-g.i] at h;exact h);refine ai (i:=8) rfl (by kernel_rfl) λK b=>?_;refine aU rfl (.tmp 32) (.tmp 35) 43 rfl (z (A w0)) 9 i1 (U ⟨#[]⟩) 1 16 NG hi Id Fm JL rfl (by decide) (Y ZY L B) L (bO y_) (by simp[Act.eval]) RK.i (T (z (A l)) 0 Z) 1 1 [U nm] (by simp[Act.eval]) rfl (CJ l.drew _ _) (by simp[Value.oneCell']) (by unfold maxLen;omega) (by omega) P.lt ?_;intro v' O ZS q GS;have O3:=ae ZS;have G3:=ae q;have S3:=ae (SQ O (λk t ZX=>(q.p k (lj t (by simp<;>omega)) ZX).k (AB.p k t)));obtain⟨g4,y,cur4,rfl,ZM⟩:=ZS.2.resolve_left (λh=>by omega);clear ZM;clear ZS q GS;refine b _ _ (λ_=>S3) ?_;clear b K m
 (try simp only[p_,z_])
 iterate 2
  refine bV 9 rfl rfl (by kernel_rfl) λK b=>?_;go_simp;refine b _ _ (λ_=>S3) ?_;clear b K
  (try simp only[p_,z_])
 have M4:Hid (MI w0 S mb mp (Y a0 S.n0 c0) (Y a1 S.n1 c1) (ZU O (T mb 3 Z) (Y (Q (T g4 0 Z)) (L+1) y)) (y_++[nm]) (y_++[nm]) q_ G V (Y (Q (T g4 0 Z)) (L+1) y) md/\KX (z (A w0)) XN l (ZU O (T mb 3 Z) (Y (Q (T g4 0 Z)) (L+1) y))):=by have h4:=P.mked (w':=O) (nk':=(y_++[nm]).length) (ks':=bO (y_++[nm])) (v:=Y (Q (T g4 0 Z)) (L+1) y) (by rw[<-g.i];exact G3) (by rw[cM,AI,<-g.i];simpa[bO] using O3.i);exact⟨h4.1,(KX.l (X:=XN) AB ly H.lt).to h4.2⟩
 have s3:=S3.1;have DE:mb<z (A O):=lj ZT (nX (by simp<;>omega) G3.size);have Fd:O.frozen? (T mb 3 Z)=ZA:=by
  have ZX:Q mb≠(Value.slice ZY L B).ownBlock:=λe=>by obtain⟨_,_,cs,hc⟩:=af RK mb e.c;exact absurd (ar P.ab hc) (by decide)
  exact(NF (a:=(T mb 3 Z)) (G3.p mb (ah P.ab) ZX)).k (P.ab.y.2.2.2.2.2.2 3)
 refine ai (i:=11) rfl (by kernel_rfl) λK b=>?_;go_simp;refine b _ _ (λh=>absurd rfl h) ?_;clear b K s3 Fd
 (try simp only[p_,z_])
 refine ba (by kernel_rfl) ?_ _;have aq:=ae M4.1;have K4:=ae (K1.to M4.2);have ZP:=ae ((M4.2.ad _ _ _ _ D (by decide) (by decide) (by decide) λh=>h).k D);clear M4 RK P AB S3 O3 G3 SQ K1 H DE;generalize World.setCell O _ _=M at aq K4 ZP ⊢;have hwl4:z (A w)<z (A M):=ah ZP.i;have p:ZW M (T (z (A w)) 0 Z)=Q (U nm):=by simp[World.cell?,ZP.i]
 have k1:ZW M (T (z (A w)) 1 Z)=Q (Y a (S.f1 tg).h j_):=by simp[World.cell?,ZP.i]
 obtain⟨W5,ZO⟩:∃W:E,M.alloc (N #[U nm,J I 3,J I 0,U ⟨#[]⟩,Y a (S.f1 tg).h j_,Y Z 0 0,Y Z 0 0,J I 0] 134)=W:=⟨_,rfl⟩
 obtain⟨A5,-,hz5⟩:=nb1 ZO;have R:=ae ZO;clear ZO;have qr:z (A w0)<=z (A M):=aq.lt
 have U5:Hid (EU w0 S W5 (z (A M)) nm tg G [] (Y Z 0 0) q_ V):=by rw[<-R.i];exact⟨⟨a,j_,gM _ _,JG⟩,qr,⟨rfl,.inl ⟨rfl,rfl⟩⟩,λx hx=>by
  obtain⟨act,JI,_⟩:=(aq.W x hx).ad;have:=ah JI
  omega,λ_ _ k t=>(by cases t),λ_ hl=>absurd hl nj⟩
 have M5:=ae (aq.aa A5 ly);have JP:Hid (eX S (y_++[nm]) q_ 201):=by have h1:=gu (bu H2).1 (bu H2).2 H0 H1;have h2:=JJ.i;unfold eX at h2 ⊢;show _<=_;omega
 go_wp2_with fail;clear p k1;rw[R.i];clear R;obtain⟨eb,ld⟩:∃eb,eb=z (A M):=⟨_,rfl⟩
 rw[<-ld] at U5 ⊢;have HEB:=ae ld;have DQ:z (A w)<=eb:=by omega
 clear ld;refine(FV CC n JH q_ G V _ md W5 eb tg nm (by simp;omega) M5 (iH HP H0) JP (bu H2).1 U5).P ?_;intro e ZQ o;obtain⟨R1,bt⟩:∃R1,R1=bT S (aT S n (y_++[nm])) tg 201 q_ [] []:=⟨_,rfl⟩
 have HT:Hid (nR S (n+1) y_ q_ nm tg=iF nm tg R1):=by rw[bt];rfl
 rw[<-bt] at o;have JM:=ae bt;clear bt;have K5:Hid (KX (z (A w0)) XN w W5):=K4.to (KX.l (X:=XN) A5 ly qr);rcases R1 with⟨mv,x⟩|c|d
 ·obtain⟨rfl,G1,V1,mk1,Hx,v1,fd,ur,ph,ro,n9,ex⟩:=o;have GD:=ae (gS CC.ok (bu H2).1 (dm CC.ok n (y_++[nm])) _ _ _ _ _ _ (iH HP H0) (iv S q_) rfl JM.c);have M6:=ae fd;have E6:=ae ur;have F6:=ae ph;have V6:=ae ro;have X6:=ae n9;have K6:Hid (KX (z (A w0)) XN w ZQ):=K5.k ex (λi hi h=>by have e2:i=eb:=h;omega);have hz6:z (A W5)<=z (A ZQ):=ex.aa.size;have At:(y_++[nm]).length=L+1:=by rw[cM,AI,<-g.i]
  have ZN:=fd.rmk;rw[At] at ZN;obtain⟨ZR,f,cur7,rfl,ZM⟩:=ZN.2.resolve_left (λh=>by omega);have hcap7:L+1<=f:=ZM.2.2.1;have R6:=ae (ownsRow_pop (n:=L) (xs:=bO y_) (last:=[U nm]) (by rw[bO,PI,Nat.mul_one];exact g.c) (by simpa[bO] using ZN));clear fd ur ph ro n9 ex ZM ZN At;obtain⟨hml6,-,-,-,j,-,mf⟩:=M6.ab.y;have JN:=mf 3;clear mf;go_wp2_with fail;have hwr:IntKind.i64.wrap (L:Int)=(L:Int):=wrapM (by omega) (by omega);have hI0:(0:Int)<=(L:Int):=by omega
  have hI1:(L:Int)<=(f:Int):=by omega
  refine aI (λV=>ZW V (T mb 3 Z)=Q (Y (Q (T ZR 0 Z)) (L+1) f)) 14 (by kernel_rfl) ?_;have m:Hid (ZQ.drew.cell? (T mb 3 Z)=Q (Y (Q (T ZR 0 Z)) (L+1) f)):=j;iterate 10
   refine aO 0 (v:=?_) rfl rfl (by kernel_rfl) (λ_ _ _ h=>h) rfl ?_ m ?_;rotate_left
   ·(intro wz s0;go_simp)
    (try with_reducible rfl)
   (try simp only[p_,z_])
  refine fs (i:=10) (v:=J I (L:Int)) rfl (by kernel_rfl) (by kernel_rfl) (by kernel_rfl) (by kernel_rfl) (λ_ _ _ h=>h) rfl ?_ m ?_;{intro wz s0;go_simp}
  (try simp only[p_,z_])
  refine fs (i:=11) (v:=Y (Q (T ZR 0 Z)) L f) rfl (by kernel_rfl) (by kernel_rfl) (by kernel_rfl) (by kernel_rfl) (λ_ _ _ h=>h) rfl ?_ m ?_;{intro wz s0;go_simp}
  (try simp only[p_,z_])
  iterate 2
   refine bV 12 rfl rfl (by kernel_rfl) λK b=>?_;go_simp;refine b _ _ (λ_=>m) ?_;clear b K
   (try simp only[p_,z_])
  have M7:=ae (M6.mked (w':=ZQ) (nk':=ZV y_) (ks':=bO y_) (v:=Y (Q (T ZR 0 Z)) L f) (World.grownBy.refl _ _) (by rw[<-g.i];exact R6));refine ai (i:=14) rfl (by kernel_rfl) λK b=>?_;go_simp;refine b _ _ (λh=>absurd rfl h) ?_;clear b K m j JN
  (try simp only[p_])
  refine ba (by kernel_rfl) ?_ _;have D7:Hid (Below (z (A (ZU ZQ (T mb 3 Z) (Y (Q (T ZR 0 Z)) L f)))) (ZU ZQ (T mb 3 Z) (Y (Q (T ZR 0 Z)) L f)) (ZU ZQ (T mb 3 Z) (Y (Q (T ZR 0 Z)) L f)).drew):=br.drew;go_wp2_with fail;go_ret;rw[HT.i];have M8:=M7.1.aa D7.i ly;have K8:=M7.2.to (KX.l (X:=XN) D7 ly M7.1.lt);obtain⟨g1,-,-,-,-,g6⟩:=GD.i;exact⟨mv,y_++[nm],G1,V1,_,Hx,v1,eb,rfl,.inr rfl,rfl,M8,E6.kx K8 (λh=>h) (λ_ _ h=>h),rfl,(jB g1).2,(jB g1).1,g6,F6,DQ,λk t=>nX (by omega) (V6 k t),X6.P (by omega),K6.to K8⟩
 {obtain⟨u,rfl,g1,g2⟩:=o;go_wp2_with fail;rw[HT.i];exact⟨rfl,u,rfl,g1,K5.aa.k g2⟩};{obtain⟨rfl,g2⟩:=o;go_wp2_with fail;rw[HT.i];exact⟨rfl,rfl,K5.aa.k g2⟩}
end
def iJ (g:B_)(n:Nat)(t:F_):aF g n t=(atI g n t).isSome:=by unfold aF atI;rw[OH,List.find?_isSome,TI]
def CK{g:B_}{n i j:Nat}{t:F_}(o:aK g n=ZH)(f:atI g n t=Q j)(hi:i<=n)(h1:∀m,m<i->aC (g m) t=ZH)(h2:∀m,i<=m->m<n->aC (g m) t=ZA):i=j:=by have h:=kU o hi h1 h2;rw[iJ,f,Option.isSome_some] at h;have b:=h.c;rw[j6,nD] at b;have l:=bu f;exact asc_one o b.1 l.1 b.2 (by rw[l.2];simp)
section
variable {w0:E}{S:xl}{a0 a1:O_}{c0 c1 mb mp:Nat}{mk md:ZB}{y_:List F_}{q_:List k_}{G:F_->Nat}{V:F_->ZB}
def ti{b:E}{s0 s1:ZB}(h:MI w0 S mb mp s0 s1 w y_ y_ q_ G V mk md)(o:PG S y_ q_)(p:aS q_ nm=Z)(hb:Below (z (A w)) w b)(f:Int)(i:f≠3)(tx:F_):dQ w0 S mb mp s0 s1 y_ q_ G V w nm (ZI (.pointer (Q (T (z (A b)) 0 Z)))) (b.alloc (N #[U nm,J I f,J I 0,U tx,Y Z 0 0,Y Z 0 0,Y Z 0 0,J I 0] 134)) (ee q_ ⟨nm,f,0,tx,0,[]⟩):=by
 have h1:=h.aa hb ly;have g:=(BS b).alloc ly (N #[U nm,J I f,J I 0,U tx,Y Z 0 0,Y Z 0 0,Y Z 0 0,J I 0] 134);refine⟨q_,y_,G,V,mk,md,Y Z 0 0,z (A b),rfl,.inl rfl,rfl,h1.aa g ly,⟨⟨Y Z 0 0,gM _ _,?_⟩,h1.lt,⟨rfl,.inl ⟨rfl,rfl⟩⟩⟩,rfl,dI p,o,λl m=>absurd m nj,λy n=>?_,hb.size,λk i=>(by cases i),Ext.refl _ _ _ _,(KX.l (X:=XN) hb ly h.lt).to (KX.l g ly h1.lt)⟩;{rw[oF,eI i]};{obtain⟨act,j,_⟩:=(h1.W y n).ad;have:=ah j;omega}
def CO (C:Ctx w0 S a0 c0 a1 c1)(w:E)(nm:F_)(i:Nat)(h:MI w0 S mb mp (Y a0 S.n0 c0) (Y a1 S.n1 c1) w y_ y_ q_ G V mk md)(y:PG S y_ q_)(t:aS q_ nm=Z)(h2:atI (nm0 S.f0) S.n0 nm=Q i):Qw Pg 151 #[.pointer (Q (T mb 0 Z)),U nm] w λe B=>dQ w0 S mb mp (Y a0 S.n0 c0) (Y a1 S.n1 c1) y_ q_ G V w nm e B (ee q_ ⟨nm,1,0,(S.f0 i).H,0,[]⟩):=by
 obtain⟨g,m0,p,-⟩:=h.ab.y;have n:=ae h;have ZY:=ae y;have ZT:=ae t;have D:=ae h2;have o:=ae C;have r:aF (nm0 S.f0) S.n0 nm=ZH:=by rw[iJ,h2];rfl
 have q:i<S.n0:=(bu h2).1;have hsm:=C.ok.bb;obtain⟨bs,os,rfl,b⟩:=C.src.resolve_left (by omega);have f:=ae b;clear h y t h2 C b;go_enter func151,ntmps151;go_wp2_with fail;refine(fe _ S.n0 c0 a1 S.n1 c1 S.f0 nm w (by omega) (o.src.aa n.ak ly) o.ok.asc0).P ?_;rintro e w1⟨j,rfl,s,x,u,m⟩;obtain rfl:j=i:=CK o.ok.asc0 D s x u;have ZX:=ae m;have l:=ae (n.aa m ly);obtain⟨q0,q1⟩:=(f.aa l.ak ly).2 j q;have hbs:=(f.aa l.ak ly).1;clear m x u s m0 p g;obtain⟨g,m0,p,-⟩:=l.ab.y;rw[r];have hI:(j:Int)<S.n0:=by omega
 go_wp2_with fail;go_ret;exact ti n ZY ZT ZX 1 (by decide) _
def Ap (C:Ctx w0 S a0 c0 a1 c1)(w:E)(nm:F_)(h:MI w0 S mb mp (Y a0 S.n0 c0) (Y a1 S.n1 c1) w y_ y_ q_ G V mk md)(t:PG S y_ q_)(x:aS q_ nm=Z)(h2:atI (nm0 S.f0) S.n0 nm=Z)(q:atI (nm1 S.f1) S.n1 nm=Z):Qw Pg 151 #[.pointer (Q (T mb 0 Z)),U nm] w λe B=>dQ w0 S mb mp (Y a0 S.n0 c0) (Y a1 S.n1 c1) y_ q_ G V w nm e B (ee q_ ⟨nm,2,0,⟨#[]⟩,0,[]⟩):=by
 obtain⟨f,m0,l,-⟩:=h.ab.y;have m:=ae h;have ZX:=ae t;have D:=ae x;have g:=ae C;have u:aF (nm0 S.f0) S.n0 nm=ZA:=by rw[iJ,h2];rfl
 have n:aF (nm1 S.f1) S.n1 nm=ZA:=by rw[iJ,q];rfl
 have hsm:=C.ok.bb;clear h t x h2 q C;go_enter func151,ntmps151;go_wp2_with fail;refine(fe _ S.n0 c0 a1 S.n1 c1 S.f0 nm w (by omega) (g.src.aa m.ak ly) g.ok.asc0).P ?_;rintro e y⟨j,rfl,i,p,o,b⟩;have r:=ae b;have s:=ae (m.aa b ly);clear b p o i m0 l f;obtain⟨f,m0,l,-⟩:=s.ab.y;rw[u];go_wp2_with fail;refine(fU a0 S.n0 c0 _ S.n1 c1 S.f1 nm y (by omega) (g.w.aa s.ak ly) g.ok.asc1).P ?_;rintro e w2⟨j2,rfl,i,p,o,b⟩;have ZY:=ae (r.k (b.P r.size));clear b p o i m0 l f;rw[n];go_wp2_with fail;go_ret;exact ti m ZX D ZY 2 (by decide) _
def CQ (C:Ctx w0 S a0 c0 a1 c1)(n:Nat)(HL:∀m,n=m+1->jX w0 S mb mp (Y a0 S.n0 c0) (Y a1 S.n1 c1) m)(w:E)(nm:F_)(tg:Nat)(aq:ZV y_+n=60)(h:MI w0 S mb mp (Y a0 S.n0 c0) (Y a1 S.n1 c1) w y_ y_ q_ G V mk md)(hp:PG S y_ q_)(ZX:eX S y_ q_ 1)(hn:aA nm=ZH)(h0:aS q_ nm=Z)(h1:atL y_ nm=Z)(h2:atI (nm0 S.f0) S.n0 nm=Z)(ZY:atI (nm1 S.f1) S.n1 nm=Q tg):Qw Pg 151 #[.pointer (Q (T mb 0 Z)),U nm] w λe g=>dQ w0 S mb mp (Y a0 S.n0 c0) (Y a1 S.n1 c1) y_ q_ G V w nm e g (nR S n y_ q_ nm tg):=by
 obtain⟨s,m0,ZR,-⟩:=h.ab.y;have HM:=ae h;have ZS:=ae C;have H3:=ae ZY;have la:aF (nm0 S.f0) S.n0 nm=ZA:=by rw[iJ,h2];rfl
 have ZM:aF (nm1 S.f1) S.n1 nm=ZH:=by rw[iJ,ZY];rfl
 have ZL:tg<S.n1:=(bu ZY).1;have n8:(S.f1 tg).e=nm:=(bu ZY).2;have hsm:=C.ok.bb;obtain⟨P,os,rfl,ZT⟩:=C.w.resolve_left (by omega);have o:=ae ZT;have HX:Hid (∀(l:E) (a:O_) (j_:Nat),Below (z (A w)) w l->SlIns w0 a (S.f1 tg).h (S.f1 tg).q->Qw Pg 178 #[.pointer (Q (T mb 0 Z)),ZJ #[U nm,Y a (S.f1 tg).h j_]] l λe g=>dQ w0 S mb mp (Y a0 S.n0 c0) (Y (Q (T P os Z)) S.n1 c1) y_ q_ G V w nm e g (nR S n y_ q_ nm tg)):=by
  intro l a j_ hb y;have hw:∀e g res,dQ w0 S mb mp (Y a0 S.n0 c0) (Y (Q (T P os Z)) S.n1 c1) y_ q_ G V l nm e g res->dQ w0 S mb mp (Y a0 S.n0 c0) (Y (Q (T P os Z)) S.n1 c1) y_ q_ G V w nm e g res:=by
   intro e g res r;have W:Below (z (A w0)) w l:=hb.P h.lt;rcases res with⟨M,x⟩|c|d;{obtain⟨t,mm,G',V',ZO,ZN,v',eb,f,i,D,q4,q5,q6,q7,q8,q9,n9,ph,fd,ex,mv⟩:=r;exact⟨t,mm,G',V',ZO,ZN,v',eb,f,i,D,q4,q5,q6,q7,q8,q9,n9,nX hb.size ph,λk hk=>nX hb.size (fd k hk),ex.P hb.size,(KX.l (X:=XN) hb ly h.lt).to mv⟩};{obtain⟨u,f,i,D⟩:=r;exact⟨u,f,i,W.k D⟩};{obtain⟨f,D⟩:=r;exact⟨f,W.k D⟩}
  cases n with
  |zero =>refine(xE l a _ j_ nm (h.aa hb ly) (by omega)).P ?_;rintro e g⟨f,i⟩;exact hw _ _ _ ⟨f,i.P (nX h.lt hb.size)⟩
  |succ m =>exact(Ao C m (HL m rfl) l a j_ tg nm aq (h.aa hb ly) hp ZX hn h0 h1 ZY y).P λe g q=>hw _ _ _ q
 obtain⟨R,hR⟩:∃R,R=nR S n y_ q_ nm tg:=⟨_,rfl⟩
 rw[<-hR] at HX ⊢;clear h hp h0 h1 h2 ZY C ZT ZX HL hn hR;go_enter func151,ntmps151;go_wp2_with fail;refine(fe _ S.n0 c0 _ S.n1 c1 S.f0 nm w (by omega) (ZS.src.aa HM.ak ly) ZS.ok.asc0).P ?_;rintro e w1⟨j,rfl,L,O,ZQ,B⟩;have B1:=ae B;have M1:=ae (HM.aa B ly);clear B O ZQ L m0 ZR s;obtain⟨s,m0,ZR,-⟩:=M1.ab.y;rw[la];go_wp2_with fail;refine(fU a0 S.n0 c0 _ S.n1 c1 S.f1 nm w1 (by omega) (ZS.w.aa M1.ak ly) ZS.ok.asc1).P ?_;rintro e l⟨H,rfl,L,O,ZQ,B⟩;obtain rfl:H=tg:=CK ZS.ok.asc1 H3 L O ZQ;have B2:=ae (B1.k (B.P B1.size));have K:=ae (HM.aa B2 ly);clear B O ZQ L m0 ZR s;obtain⟨s,m0,ZR,-⟩:=K.ab.y;obtain⟨q0,aa,ca,f,-⟩:=(o.aa K.ak ly).2 H ZL;obtain⟨-,aa',ca',ZP,y⟩:=o.2 H ZL;have bt:=o.1;have e1:=(K.ak.O (p:=(T P (os+H*2+1) Z)) bt).k ZP;rw[f] at e1;simp only[L8,IN,TX] at e1;obtain⟨rfl,rfl⟩:=e1;have ld:=ae y;have hbs:=(o.aa K.ak ly).1;rw[n8] at q0;clear ZP y;rw[ZM];have hI:(H:Int)<S.n1:=by omega
 go_wp2_with fail;refine(HX l aa ca B2 ld).P ?_;intro e w3 b;rcases R with⟨M,x⟩|c|d;{have qr:=ae b;obtain⟨t,mm,G',V',ZO,ZN,v',eb,-,-,rfl,-⟩:=b;go_wp2_with fail;go_ret;exact qr};{obtain⟨u,rfl,f,i⟩:=b;go_wp2_with fail;exact⟨rfl,u,rfl,f,i⟩};{obtain⟨rfl,i⟩:=b;go_wp2_with fail;exact⟨rfl,rfl,i⟩}
end
section
variable {w0:E}{S:xl}{a0 a1:O_}{c0 c1 mb mp:Nat}{mk md:ZB}{y_:List F_}{q_:List k_}{G:F_->Nat}{V:F_->ZB}
def Aq{s0 s1:ZB}{l:E}(t:z (A w0)<=z (A w))(hb:Below (z (A w)) w l):∀e m res,dQ w0 S mb mp s0 s1 y_ q_ G V l nm e m res->dQ w0 S mb mp s0 s1 y_ q_ G V w nm e m res:=by
 intro e m res b;have i:Below (z (A w0)) w l:=hb.P t;rcases res with⟨made',x⟩|c|d;{obtain⟨h,L,ZR,ZT,n,q,M,ZX,g,j,f,C,ZY,D,K,H,B,s,y,r,p,o⟩:=b;exact⟨h,L,ZR,ZT,n,q,M,ZX,g,j,f,C,ZY,D,K,H,B,s,nX hb.size y,λk ZS=>nX hb.size (r k ZS),p.P hb.size,(KX.l (X:=XN) hb ly t).to o⟩};{obtain⟨u,g,j,f⟩:=b;exact⟨u,g,j,i.k f⟩};{obtain⟨g,f⟩:=b;exact⟨g,i.k f⟩}
def F0 (w:E)(nm:F_)(R:Out k_)(h:MI w0 S mb mp (Y a0 S.n0 c0) (Y a1 S.n1 c1) w y_ y_ q_ G V mk md)(hml60:ZV y_<=60)(hn:nm.size<=60)(h0:aS q_ nm=Z)(h1:atL y_ nm=Z)(l:∀i x,R=.inl (i,x)->ZV i<=60000)
  (HF:∀W,Below (z (A w)) w W->Qw Pg 151 #[.pointer (Q (T mb 0 Z)),U nm] W λe B=>dQ w0 S mb mp (Y a0 S.n0 c0) (Y a1 S.n1 c1) y_ q_ G V w nm e B R) :
  Qw Pg 116 #[.pointer (Q (T mb 0 Z)),U nm] w λe B=>vT w0 S mb mp (Y a0 S.n0 c0) (Y a1 S.n1 c1) y_ q_ G V w e B R:=by
 obtain⟨i1,hi,n8,ro,ph⟩:=qP FQ;have HV:=ae (show(dK G y_ q_ nm.toList).getD (ZJ #[J I 0,.pointer Z])=ZJ #[J I 0,.pointer Z] by rw[iO h0,h1];rfl);have n9:=ae (show(dK G y_ q_ nm.toList).isSome=ZA by rw[iO h0,h1];rfl);have HM:=ae h;have la:=ae HF;have fd:=ae l;obtain⟨hl,-,-,c2,-,-,-⟩:=h.ab.y;have ZN:nm.size<=maxLen:=by unfold maxLen;omega
 have hz:=pH;have B1:=ae ((BS w).alloc ly (N #[J I 0,.pointer Z] 225));clear h h0 h1 HF l;go_enter func116,ntmps116
 go_wp2_with (first
  |(at_lookup;refine jk _ rfl _ _ 178 rfl 225 TW (hz _) mp _ _ rfl HM.map nm rfl ZN _ HV ZA n9 ?_)
  |fail)
 clear c2;generalize World.alloc w _=W1 at B1 ⊢;refine(la W1 B1).P ?_;intro e w1 f;rcases R with⟨i,x⟩|c|d
 ·obtain⟨b,mm,G1,V1,mk1,md1,v1,D,rfl,ZY,rfl,q,aq,K,L,O,has,bt,qr,ZP,M,ZM⟩:=f;have sm:ZV b<=60000:=by have:=fd.i _ _ rfl;simp at this;omega
  have hmml:ZV mm<=ZV y_+1:=by rcases ZY with rfl|rfl<;>simp
  obtain⟨ap,cp,rfl⟩:=bM q.X;have M1:=ae q;have E1:=ae aq;have s:=ae K;have ld:=ae L;have P1:=ae O;have mv:=ae has;have F1:=ae bt;have th:=ae ZP;have X1:=ae M;have K1:=ae ZM;have MM:=ae ZY;obtain⟨o,ZX⟩:∃o,o=ZV b:=⟨_,rfl⟩
  have j:=ae ZX;obtain⟨ZR,-,-,m2,-,ZS,-⟩:=q.ab.y;rw[<-ZX] at ZS sm;clear q aq K L O has bt ZP M ZM ZY ZX
  go_wp2_with (first
   |(at_mapUpdate;refine Al _ rfl _ _ _ 178 rfl 225 TW mp _ _ rfl M1.map (by unfold maxLen;have:=j.i;omega) nm (ZJ #[J I 0,.pointer (Q (T D 0 Z))]) rfl rfl ZN ?_;intro ZT ZQ P;have C:=ae (M1.mapped P ZQ);clear ZQ P m2 ZS ZR;obtain⟨ZR,-,-,-,-,ZS,mf⟩:=C.1.ab.y;rw[<-j.i] at ZS;have AB:=ae ((BS ZT).alloc ly (N #[.pointer (Q (T D 0 Z))] 131));have g:=ae (C.1.aa AB ly);have RD:=ae (by have h:=g.X;rw[<-j.i] at h;exact h))
   |(at_builtin;refine DN _ rfl (.tmp 49) (.tmp 51) 128 rfl (z (A w0)) 131 i1 (.pointer Z) 1 8 underlying128 hi n8 ro ph rfl (by decide) (Y ap o cp) o (jW G1 b) (by simp[Act.eval]) RD.i (T (z (A ZT)) 0 Z) 1 1 [.pointer (Q (T D 0 Z))] (by simp[Act.eval]) rfl (CJ ZT _ _) (by simp[Value.oneCell']) (by unfold maxLen;omega) (by omega) g.lt ?_;intro v3 w3 m p ex;have O3:=ae m;have H:=ae p;obtain⟨g4,t,cur4,rfl,ur⟩:=m.2.resolve_left (λh=>by omega);clear ur m p ex;have r:Hid (Q mb≠(Value.slice ap o cp).ownBlock):=(λe=>by obtain⟨_,_,cs,hc⟩:=af RD mb e.c;exact absurd (ar g.ab hc) (by decide));have s4:=(cq (a:=(T mb 4 Z)) (H.p mb (ah g.ab) r)).k g.ab.y.2.2.2.2.2.1;have f4:=(NF (a:=(T mb 4 Z)) (H.p mb (ah g.ab) r)).k (g.ab.y.2.2.2.2.2.2 4);have hml3:mb<z (A w3):=lj (ah g.ab) H.size)
   |fail)
  go_ret;have h5:=g.mded (w':=w3) (np':=ZV b+1) (ps':=jW G1 b++[.pointer (Q (T D 0 Z))]) (v:=Y (Q (T g4 0 Z)) (o+1) t) (by rw[<-j.i];exact H) (by rw[<-j.i];exact O3);have ZO:KX (z (A w0)) XN w1 (ZU w3 (T mb 4 Z) (Y (Q (T g4 0 Z)) (o+1) t)):=(C.2.to (KX.l (X:=XN) AB ly C.1.lt)).to h5.2;have ZL:aS b nm=Z:=SD.2 λy hy=>by intro e2;exact ld y hy (Qv e2)
  have h6:=MIg.added (x:=x) h5.1 P1 ZL s MM (by omega) (E1.kx ZO (λh=>h) (λ_ _ h=>h)) F1 mv;exact⟨_,_,_,_,(by rw[s.i,ft];rfl),h6,X1.k (Ie (n:=z (A w)) ZL s qr th) ly,K1.to ZO⟩
 {obtain⟨u,rfl,q1,q2⟩:=f;go_wp2_with fail;exact⟨rfl,u,rfl,q1,q2⟩};{obtain⟨rfl,q2⟩:=f;go_wp2_with fail;exact⟨rfl,rfl,q2⟩}
def F3 (C:Ctx w0 S a0 c0 a1 c1):∀n,jX w0 S mb mp (Y a0 S.n0 c0) (Y a1 S.n1 c1) n:=by
 have o:∀n,(∀m,n=m+1->jX w0 S mb mp (Y a0 S.n0 c0) (Y a1 S.n1 c1) m)->jX w0 S mb mp (Y a0 S.n0 c0) (Y a1 S.n1 c1) n:=by
  intro n q y_ q_ G V mk md w nm p h y b hn;have f:=nS hn;have g:=iq S n y_ q_ nm;rw[jT] at g ⊢;unfold dB at g ⊢;cases h0:aS q_ nm with
  |some e =>refine(FM w nm h f e h0).P ?_;rintro r s⟨rfl,hb⟩;exact⟨G,V,mk,md,rfl,h.aa hb ly,Ext.refl _ _ _ _,KX.l hb ly h.lt⟩
  |none =>
   cases h1:atL y_ nm with
   |some i =>refine(xD w nm h f (by omega) h0 i h1).P ?_;rintro r s⟨u,rfl,ZT,ZY⟩;exact⟨u,rfl,aE ZT h.lt,ZY.P h.lt⟩
   |none =>
    rw[h0] at g;simp only[h1] at g;dsimp only;refine F0 w nm _ h (by omega) f h0 h1 (λl x B=>?_) λW ZX=>?_;{have:=g l x B;unfold eX at b;unfold fO at this;omega}
    ·refine Calls.mono ?_ λe s=>Aq h.lt ZX e s _;have j:=h.aa ZX ly;unfold eW;cases h2:atI (nm0 S.f0) S.n0 nm with
     |some i=>exact CO C W nm i j y h0 h2
     |none =>
      cases h3:atI (nm1 S.f1) S.n1 nm with
      |some t=>exact CQ C n q W nm t p j y b hn h0 h1 h2 h3
      |none=>exact Ap C W nm j y h0 h2 h3
 intro n;induction n with
 |zero=>exact o 0 λm e=>by omega
 |succ n D=>exact o (n+1) λm e=>by cases e;exact D
end
