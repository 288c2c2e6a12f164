import Derived.Test.YtcnilonhfpimnaaGreatDoorEK
import Derived.WalkSmall
set_option linter.all false
set_option maxRecDepth 1000000
set_option maxHeartbeats 8000000
open Go renaming Addr.mk->T,Value.slice->Z,Value.string->U,Value.int->J,Value.agg->ZJ,Obj.cells->N,IntKind.i64->I,World->E,Value->ZB,TypeId->ZK,Ending.returned->ZI,World.heap->A,World.cell?->ZV,Proofs.Tryz.prog->Pg
open Option renaming none->Y,some->Q
open Bool renaming false->ZA,true->ZH
open Array renaming size->z
open List renaming length->ZU
namespace Go.Proofs.YtcnilonhfpimnaaGreatDoor.Vp
open Tryz RowKit Ca Go.Maps
variable {w:E}{nm:F_}
def vY{i:Array Oper}{o:Oper}{a:Act}{K:Act->E->Prop}{ZO:Exit->Act->E->Prop}{ZT:Prop}(H:o.guard=Y)(m x v:Operand)(t:ZK)(p:o.op=Op.mapUpdate t m x v)(e:ZK)(ZR:Pg.underlying t=Q (.map 9 e))(b n:Nat)(G:List UInt8->Option ZB)
  (ZS:a.eval m=.map (Q b)) (j:MapN w b n G) (hn:n<maxLen) (g:F_) (f:ZB) (C:a.eval x=U g) (y:a.eval v=f) (ZW:g.size<=maxLen)
  (u:∀h,MapN h b (n+1) (λs=>if s=g.toList then Q f else G s)->w.grownBy h (Q b)->K (a.put o.dst undef) h) :
  if Region.wanted o (yielded i a.tmps)=ZH then Oper.wp Pg o a w K ZO else ZT:=by
 have ZX:Region.wanted o (yielded i a.tmps)=ZH:=by simp[Region.wanted,H]
 rw[eT ZX];obtain⟨D,q,r⟩:=j;obtain⟨h,l,r1,B⟩:=q.update rO ZR hn (QT E4 ZW) (val:=f) (d:=.held f) (ps:=[]) rfl;unfold Oper.wp;simp[execOp,p,ZS,C,y,l,Result.andThen];refine u h ⟨_,r1,?_⟩ B;have:=vS (x:=g.toList) (v:=f) q.isMap r;rw[NM] at this ⊢;exact this
def CJ (w:E)(v:ZB)(t:ZK):∀j u,[v][j]?=Q u->(w.alloc (N #[v] t)).cell? (((T (z (A w)) 0 Y):Addr).add j)=Q u:=by
 intro j u h;rw[addr_add];have f:j=0:=by
  rcases OT j 1 with b|b;{omega};{rw[NU (by simp;omega)] at h;cases h}
 subst f;simp at h;subst h;simp
def wrapM{ZW:Int}(h0:0<=ZW)(h1:ZW<=1048576):IntKind.i64.wrap ZW=ZW:=by rw[nL];omega
def dQ (w0:E)(S:J_)(mb mp:Nat)(s0 s1:ZB)(y_:List F_)(q_:List k_)(G:F_->Nat)(V:F_->ZB)(w:E)(nm:F_)(e:Ending)(f:E):Out k_->Prop
 |.inl (made',x)=>∃b i g n m o j h,made'=b++[x]/\(i=y_\/i=y_++[nm])/\e=ZI (.pointer (Q (T h 0 Y)))/\MI w0 S mb mp s0 s1 f i y_ b g n m o/\EntAt w0 S g f h j x/\x.e=nm/\(∀y∈b,y.e≠nm)/\PG S y_ b/\(∀l∈x.D,l.ask=ZH->∃y∈b,y.e=l.e)/\(∀y∈b,g y.e≠h)/\(z (A w))<=h/\(∀k,j.ownBlock=Q k->z (A w)<=k)/\Ext (z (A w)) q_ b G g V n/\KX (z (A w0)) XN w f
 |.inr (.inl c)=>∃v,e=.panicked [{ v:=.iface 220 (ZJ #[v]),recovered:=ZA }]/\f.ownsRow (z (A w0)) 9 1 v (ZU c) (bO c)/\Below (z (A w0)) w f
 |.inr (.inr d)=>e=.panicked [{ v:=.iface 222 (ZJ #[U d]),recovered:=ZA }]/\Below (z (A w0)) w f
section
variable {w0:E}{S:J_}{a0 a1:O_}{c0 c1 mb mp:Nat}{mk md:ZB}{y_:List F_}{q_:List k_}{G:F_->Nat}{V:F_->ZB}
def xE (w:E)(a:O_)(yh j_:Nat)(nm:F_)(h:MI w0 S mb mp (Z a0 S.n0 c0) (Z a1 S.n1 c1) w y_ y_ q_ G V mk md)(b:ZU y_=60):Calls Pg 178 #[.pointer (Q (T mb 0 Y)),ZJ #[U nm,Z a yh j_]] w λe j=>e=.panicked [{ v:=.iface 222 (ZJ #[U nm]),recovered:=ZA }]/\Below (z (A w)) w j:=by
 obtain⟨ak,ck,rfl⟩:=bM h.rmk;have g:=ae ((BS w).alloc ly (N #[U nm,Z a yh j_] 86));have f:=ae (h.aa g ly);obtain⟨hml,-,-,-,i,-,-⟩:=f.ab.y;have k0:(w.alloc (N #[U nm,Z a yh j_] 86)).cell? (T (z (A w)) 0 Y)=Q (U nm):=by simp
 rw[b] at i;clear h f b;go_enter func178,ntmps178;go_wp2_with fail;exact⟨rfl,rfl,g⟩
def Ao (C:Ctx w0 S a0 c0 a1 c1)(n:Nat)(HL:jX w0 S mb mp (Z a0 S.n0 c0) (Z a1 S.n1 c1) n)(w:E)(a:O_)(j_ tg:Nat)(nm:F_)(hlen:ZU y_+(n+1)=60)(h:MI w0 S mb mp (Z a0 S.n0 c0) (Z a1 S.n1 c1) w y_ y_ q_ G V mk md)(hp:PG S y_ q_)(q:eX S y_ q_ 1)(hn:aA nm=ZH)(h0:aS q_ nm=Y)(h1:atL y_ nm=Y)(h2:atI (nm1 S.f1) S.n1 nm=Q tg)(th:SlIns w0 a (S.f1 tg).h (S.f1 tg).q):Calls Pg 178 #[.pointer (Q (T mb 0 Y)),ZJ #[U nm,Z a (S.f1 tg).h j_]] w λe w'=>dQ w0 S mb mp (Z a0 S.n0 c0) (Z a1 S.n1 c1) y_ q_ G V w nm e w' (nR S (n+1) y_ q_ nm tg):=by
 obtain⟨i1,hi,JM,GS,JG⟩:=qP FP;obtain⟨B,ZX,rfl⟩:=bM h.rmk;have JO:z (A w0)<=z (A w):=h.lt;have Fd:nm.size<=maxLen:=by have:=nS hn;unfold maxLen;omega
 have A0:=ae ((BS w).alloc ly (N #[U nm,Z a (S.f1 tg).h j_] 86));have kt:Hid ((w.alloc (N #[U nm,Z a (S.f1 tg).h j_] 86)).heap[z (A w)]?=Q (N #[U nm,Z a (S.f1 tg).h j_] 86 (0,0))):=gM _ _;have M0:=ae (h.aa A0 ly);have CC:=ae C;have Fm:=ae HL;have HP:=ae hp;have HN:=ae hn;have H0:=ae h0;have H1:=ae h1;have H2:=ae h2;have JL:=ae th;have hmade:ZU q_<=50000:=by unfold eX at q;omega
 have JI:=ae q;clear h C HL hp hn h0 h1 h2 th q;obtain⟨L,hL⟩:∃L,L=ZU y_:=⟨_,rfl⟩
 have g:=ae hL;have hL60:L<60:=by omega
 obtain⟨D,-,-,m2,m,-,-⟩:=M0.ab.y;obtain⟨-,p,-⟩:=(show(w.alloc (N #[U nm,Z a (S.f1 tg).h j_] 86)).cell? (T (z (A w)) 0 Y)=Q (U nm)/\(w.alloc (N #[U nm,Z a (S.f1 tg).h j_] 86)).cell? (T (z (A w)) 0 Y)=Q (U nm)/\True from⟨by simp,by simp,trivial⟩)
 rw[<-hL] at m;clear hL;have hL60i:((L:Int) == 60)=ZA:=by simp;omega
 go_enter func178,ntmps178;go_wp2_with fail;generalize World.alloc w _=W0 at A0 kt M0 m2 m D p ⊢;refine wp_region_held_drew (S:=λV=>ZV V (T mb 2 Y)=Q (.map (Q mp))/\ZV V (T mb 3 Y)=Q (Z B L ZX)/\ZV V (T (z (A w)) 0 Y)=Q (U nm)) (by kernel_rfl) ⟨m2,m,p⟩ λhS=>?_;have j:=ae hS;clear hS;iterate 12
  refine aN 0 (v:=?_) rfl rfl (by kernel_rfl) (λ_ _ _ h=>h) rfl ?_ j ?_;rotate_left
  ·(rintro wz⟨s0,s1,s2⟩;go_simp)
   (try with_reducible rfl)
  (try simp only[Act.put,z_])
 have MD:=ae (M0.aa (a8 _ W0).drew ly);refine aL (i:=12) rfl (by kernel_rfl) λK b=>?_;refine vY rfl _ _ _ 178 rfl 225 TW mp (2*(ZU q_)+ZU y_) (dK G y_ q_) rfl MD.map (by unfold maxLen;omega) nm (ZJ #[J I (L:Int),.pointer Y]) rfl rfl Fd ?_;intro l qr ph;have ZP:=ae (MD.mapped (cnt':=2*(ZU q_)+(y_++[nm]).length) (F':=dK G (y_++[nm]) q_) ph ((qr.congr λs=>by rw[<-Am H0.i H1.i s,<-g.i]).P (by simp;omega)));clear qr ph;have ZO:=ae ZP.1;have K1:Hid (KX (z (A w0)) XN w l):=(KX.l (X:=XN) (A0.k ((a8 _ W0).drew.P A0.size)) ly JO).to ZP.2;have ZW:Hid (l.heap[z (A w)]?=Q (N #[U nm,Z a (S.f1 tg).h j_] 86 (0,0))):=(ZP.2.ad _ _ _ _ kt (by decide) (by decide) (by decide) λh=>h).k kt;clear j m2 m p D ZP;obtain⟨D,-,-,m2,m,-,-⟩:=ZO.ab.y;rw[<-g.i] at m;have Id:z (A w)<z (A l):=ah ZW.i;have p:ZV l (T (z (A w)) 0 Y)=Q (U nm):=by simp[World.cell?,ZW.i]
 refine b _ _ ⟨m2,m,p⟩ ?_;clear b K
 (try simp only[Act.put])
 refine wpAnyH_done (by kernel_rfl) ?_ _;clear MD M0 kt;go_wp2_with fail;have SQ:Hid (∀V:E,(∀k,k<z (A l)->Q k≠(Value.slice B L ZX).ownBlock->V.heap[k]?=l.heap[k]?)->ZV V (T mb 3 Y)=Q (Z B L ZX)/\ZV V (T (z (A w)) 0 Y)=Q (U nm)):=λV hV=>by
  have ZT:Q mb≠(Value.slice B L ZX).ownBlock:=λe=>by obtain⟨_,_,cs,hc⟩:=af ZO.rmk mb (by rw[<-g.i];exact e.c);exact absurd (ar ZO.ab hc) (by decide)
  have DQ:Q (z (A w))≠(Value.slice B L ZX).ownBlock:=λe=>by obtain⟨_,_,cs,hc⟩:=af ZO.rmk (z (A w)) (by rw[<-g.i];exact e.c);exact absurd (ar ZW hc) (by decide)
  exact⟨(cq (a:=(T mb 3 Y)) (hV mb D ZT)).k m,(cq (a:=(T (z (A w)) 0 Y)) (hV (z (A w)) Id DQ)).k p⟩
 have j:=ae (SQ l.drew (λk t _=>rfl));refine aI (λV=>ZV V (T mb 3 Y)=Q (Z B L ZX)/\ZV V (T (z (A w)) 0 Y)=Q (U nm)) 11 (by kernel_rfl) ?_;clear m2 m p;iterate 7
  first|refine aO 0 (v:=?_) rfl rfl (by kernel_rfl) (λ_ _ _ h=>h) rfl ?_ j ?_|refine aO 5 (v:=?_) rfl rfl (by kernel_rfl) (λ_ _ _ h=>h) rfl ?_ j ?_
  rotate_left
  ·(rintro wz⟨s0,s1⟩;go_simp)
   (try with_reducible rfl)
  (try simp only[Act.put,z_])
 refine ai (i:=7) rfl (by kernel_rfl) λK b=>?_;go_simp;have AB:=ae (((BS l).drew).alloc ly (N #[U nm] 9));have H:=ae (ZO.aa AB ly);refine b _ _ (λ_=>SQ _ (λk t _=>AB.p k t)) ?_;clear b K
 (try simp only[Act.put,z_])
 have RK:=ae (by have h:=H.rmk;rw[<-g.i] at h;exact h);refine ai (i:=8) rfl (by kernel_rfl) λK b=>?_;refine aU rfl (.tmp 32) (.tmp 35) 43 rfl (z (A w0)) 9 i1 (U ⟨#[]⟩) 1 16 NH hi JM GS JG rfl (by decide) (Z B L ZX) L (bO y_) (by simp[Act.eval]) RK.i (T (z (A l)) 0 Y) 1 1 [U nm] (by simp[Act.eval]) rfl (CJ l.drew _ _) (by simp[Value.oneCell']) (by unfold maxLen;omega) (by omega) H.lt ?_;intro v' ZQ M y JP;have O3:=ae M;have G3:=ae y;have S3:=ae (SQ ZQ (λk t ZT=>(y.p k (lj t (by simp<;>omega)) ZT).k (AB.p k t)));obtain⟨g4,r,cur4,rfl,ZM⟩:=M.2.resolve_left (λh=>by omega);clear ZM;clear M y JP;refine b _ _ (λ_=>S3) ?_;clear b K j
 (try simp only[Act.put,z_])
 iterate 2
  refine bV 9 rfl rfl (by kernel_rfl) λK b=>?_;go_simp;refine b _ _ (λ_=>S3) ?_;clear b K
  (try simp only[Act.put,z_])
 have M4:Hid (MI w0 S mb mp (Z a0 S.n0 c0) (Z a1 S.n1 c1) (ZQ.setCell (T mb 3 Y) (Z (Q (T g4 0 Y)) (L+1) r)) (y_++[nm]) (y_++[nm]) q_ G V (Z (Q (T g4 0 Y)) (L+1) r) md/\KX (z (A w0)) XN l (ZQ.setCell (T mb 3 Y) (Z (Q (T g4 0 Y)) (L+1) r))):=by have h4:=H.mked (w':=ZQ) (nk':=(y_++[nm]).length) (ks':=bO (y_++[nm])) (v:=Z (Q (T g4 0 Y)) (L+1) r) (by rw[<-g.i];exact G3) (by rw[cM,AI,<-g.i];simpa[bO] using O3.i);exact⟨h4.1,(KX.l (X:=XN) AB ly ZO.lt).to h4.2⟩
 have s3:=S3.1;have DE:mb<z (A ZQ):=lj D (nX (by simp<;>omega) G3.size);have JK:ZQ.frozen? (T mb 3 Y)=ZA:=by
  have ZT:Q mb≠(Value.slice B L ZX).ownBlock:=λe=>by obtain⟨_,_,cs,hc⟩:=af RK mb e.c;exact absurd (ar H.ab hc) (by decide)
  exact(NG (a:=(T mb 3 Y)) (G3.p mb (ah H.ab) ZT)).k (H.ab.y.2.2.2.2.2.2 3)
 refine ai (i:=11) rfl (by kernel_rfl) λK b=>?_;go_simp;refine b _ _ (λh=>absurd rfl h) ?_;clear b K s3 JK
 (try simp only[Act.put,z_])
 refine ba (by kernel_rfl) ?_ _;have bt:=ae M4.1;have K4:=ae (K1.to M4.2);have aq:=ae ((M4.2.ad _ _ _ _ ZW (by decide) (by decide) (by decide) λh=>h).k ZW);clear M4 RK H AB S3 O3 G3 SQ K1 ZO DE;generalize World.setCell ZQ _ _=R at bt K4 aq ⊢;have hwl4:z (A w)<z (A R):=ah aq.i;have p:ZV R (T (z (A w)) 0 Y)=Q (U nm):=by simp[World.cell?,aq.i]
 have k1:ZV R (T (z (A w)) 1 Y)=Q (Z a (S.f1 tg).h j_):=by simp[World.cell?,aq.i]
 obtain⟨W5,ZS⟩:∃W:E,R.alloc (N #[U nm,J I 3,J I 0,U ⟨#[]⟩,Z a (S.f1 tg).h j_,Z Y 0 0,Z Y 0 0,J I 0] 134)=W:=⟨_,rfl⟩
 obtain⟨A5,-,hz5⟩:=nb1 ZS;have O:=ae ZS;clear ZS;have At:z (A w0)<=z (A R):=bt.lt
 have U5:Hid (EU w0 S W5 (z (A R)) nm tg G [] (Z Y 0 0) q_ V):=by rw[<-O.i];exact⟨⟨a,j_,gM _ _,JL⟩,At,⟨rfl,.inl ⟨rfl,rfl⟩⟩,λx hx=>by
  obtain⟨act,Hx,_⟩:=(bt.W x hx).ad;have:=ah Hx
  omega,λ_ _ k t=>(by cases t),λ_ hl=>absurd hl nj⟩
 have M5:=ae (bt.aa A5 ly);have Fk:Hid (eX S (y_++[nm]) q_ 201):=by have h1:=gu (bu H2).1 (bu H2).2 H0 H1;have h2:=JI.i;unfold eX at h2 ⊢;show _<=_;omega
 go_wp2_with fail;clear p k1;rw[O.i];clear O;obtain⟨eb,la⟩:∃eb,eb=z (A R):=⟨_,rfl⟩
 rw[<-la] at U5 ⊢;have HEB:=ae la;have Bk:z (A w)<=eb:=by omega
 clear la;refine(FV CC n Fm q_ G V _ md W5 eb tg nm (by simp;omega) M5 (iH HP H0) Fk (bu H2).1 U5).P ?_;intro e P o;obtain⟨R1,ZN⟩:∃R1,R1=bT S (aT S n (y_++[nm])) tg 201 q_ [] []:=⟨_,rfl⟩
 have HT:Hid (nR S (n+1) y_ q_ nm tg=iF nm tg R1):=by rw[ZN];rfl
 rw[<-ZN] at o;have JN:=ae ZN;clear ZN;have K5:Hid (KX (z (A w0)) XN w W5):=K4.to (KX.l (X:=XN) A5 ly At);rcases R1 with⟨mv,x⟩|c|d
 ·obtain⟨rfl,G1,V1,mk1,JH,v1,ex,n8,sm,ro,n9,ld⟩:=o;have GD:=ae (gS CC.ok (bu H2).1 (dm CC.ok n (y_++[nm])) _ _ _ _ _ _ (iH HP H0) (iv S q_) rfl JN.c);have M6:=ae ex;have E6:=ae n8;have F6:=ae sm;have V6:=ae ro;have X6:=ae n9;have K6:Hid (KX (z (A w0)) XN w P):=K5.k ld (λi hi h=>by have e2:i=eb:=h;omega);have hz6:z (A W5)<=z (A P):=ld.aa.size;have ur:(y_++[nm]).length=L+1:=by rw[cM,AI,<-g.i]
  have ZL:=ex.rmk;rw[ur] at ZL;obtain⟨ZR,f,cur7,rfl,ZM⟩:=ZL.2.resolve_left (λh=>by omega);have hcap7:L+1<=f:=ZM.2.2.1;have R6:=ae (ownsRow_pop (n:=L) (xs:=bO y_) (last:=[U nm]) (by rw[bO,PJ,Nat.mul_one];exact g.c) (by simpa[bO] using ZL));clear ex n8 sm ro n9 ld ZM ZL ur;obtain⟨hml6,-,-,-,m,-,mf⟩:=M6.ab.y;have JJ:=mf 3;clear mf;go_wp2_with fail;have hwr:IntKind.i64.wrap (L:Int)=(L:Int):=wrapM (by omega) (by omega);have hI0:(0:Int)<=(L:Int):=by omega
  have hI1:(L:Int)<=(f:Int):=by omega
  refine aI (λV=>ZV V (T mb 3 Y)=Q (Z (Q (T ZR 0 Y)) (L+1) f)) 14 (by kernel_rfl) ?_;have j:Hid (P.drew.cell? (T mb 3 Y)=Q (Z (Q (T ZR 0 Y)) (L+1) f)):=m;iterate 10
   refine aO 0 (v:=?_) rfl rfl (by kernel_rfl) (λ_ _ _ h=>h) rfl ?_ j ?_;rotate_left
   ·(intro wz s0;go_simp)
    (try with_reducible rfl)
   (try simp only[Act.put,z_])
  refine fs (i:=10) (v:=J I (L:Int)) rfl (by kernel_rfl) (by kernel_rfl) (by kernel_rfl) (by kernel_rfl) (λ_ _ _ h=>h) rfl ?_ j ?_;{intro wz s0;go_simp}
  (try simp only[Act.put,z_])
  refine fs (i:=11) (v:=Z (Q (T ZR 0 Y)) L f) rfl (by kernel_rfl) (by kernel_rfl) (by kernel_rfl) (by kernel_rfl) (λ_ _ _ h=>h) rfl ?_ j ?_;{intro wz s0;go_simp}
  (try simp only[Act.put,z_])
  iterate 2
   refine bV 12 rfl rfl (by kernel_rfl) λK b=>?_;go_simp;refine b _ _ (λ_=>j) ?_;clear b K
   (try simp only[Act.put,z_])
  have M7:=ae (M6.mked (w':=P) (nk':=ZU y_) (ks':=bO y_) (v:=Z (Q (T ZR 0 Y)) L f) (World.grownBy.refl _ _) (by rw[<-g.i];exact R6));refine ai (i:=14) rfl (by kernel_rfl) λK b=>?_;go_simp;refine b _ _ (λh=>absurd rfl h) ?_;clear b K j m JJ
  (try simp only[Act.put])
  refine ba (by kernel_rfl) ?_ _;have D7:Hid (Below (P.setCell (T mb 3 Y) (Z (Q (T ZR 0 Y)) L f)).heap.size (P.setCell (T mb 3 Y) (Z (Q (T ZR 0 Y)) L f)) (P.setCell (T mb 3 Y) (Z (Q (T ZR 0 Y)) L f)).drew):=br.drew;go_wp2_with fail;go_ret;rw[HT.i];have M8:=M7.1.aa D7.i ly;have K8:=M7.2.to (KX.l (X:=XN) D7 ly M7.1.lt);obtain⟨g1,-,-,-,-,g6⟩:=GD.i;exact⟨mv,y_++[nm],G1,V1,_,JH,v1,eb,rfl,.inr rfl,rfl,M8,E6.kx K8 (λh=>h) (λ_ _ h=>h),rfl,(jB g1).2,(jB g1).1,g6,F6,Bk,λk t=>nX (by omega) (V6 k t),X6.P (by omega),K6.to K8⟩
 {obtain⟨u,rfl,g1,g2⟩:=o;go_wp2_with fail;rw[HT.i];exact⟨rfl,u,rfl,g1,K5.aa.k g2⟩};{obtain⟨rfl,g2⟩:=o;go_wp2_with fail;rw[HT.i];exact⟨rfl,rfl,K5.aa.k g2⟩}
end
def iJ (g:B_)(n:Nat)(t:F_):aF g n t=(atI g n t).isSome:=by unfold aF atI;rw[OJ,List.find?_isSome,TI]
def CK{g:B_}{n i j:Nat}{t:F_}(o:aK g n=ZH)(h:atI g n t=Q j)(hi:i<=n)(h1:∀m,m<i->aC (g m) t=ZH)(h2:∀m,i<=m->m<n->aC (g m) t=ZA):i=j:=by have f:=kU o hi h1 h2;rw[iJ,h,Option.isSome_some] at f;have b:=f.c;rw[j6,nD] at b;have l:=bu h;exact asc_one o b.1 l.1 b.2 (by rw[l.2];simp)
section
variable {w0:E}{S:J_}{a0 a1:O_}{c0 c1 mb mp:Nat}{mk md:ZB}{y_:List F_}{q_:List k_}{G:F_->Nat}{V:F_->ZB}
def ti{b:E}{s0 s1:ZB}(h:MI w0 S mb mp s0 s1 w y_ y_ q_ G V mk md)(m:PG S y_ q_)(p:aS q_ nm=Y)(hb:Below (z (A w)) w b)(f:Int)(i:f≠3)(tx:F_):dQ w0 S mb mp s0 s1 y_ q_ G V w nm (ZI (.pointer (Q (T (z (A b)) 0 Y)))) (b.alloc (N #[U nm,J I f,J I 0,U tx,Z Y 0 0,Z Y 0 0,Z Y 0 0,J I 0] 134)) (ee q_ ⟨nm,f,0,tx,0,[]⟩):=by
 have h1:=h.aa hb ly;have g:=(BS b).alloc ly (N #[U nm,J I f,J I 0,U tx,Z Y 0 0,Z Y 0 0,Z Y 0 0,J I 0] 134);refine⟨q_,y_,G,V,mk,md,Z Y 0 0,z (A b),rfl,.inl rfl,rfl,h1.aa g ly,⟨⟨Z Y 0 0,gM _ _,?_⟩,h1.lt,⟨rfl,.inl ⟨rfl,rfl⟩⟩⟩,rfl,dI p,m,λl o=>absurd o nj,λy n=>?_,hb.size,λk i=>(by cases i),Ext.refl _ _ _ _,(KX.l (X:=XN) hb ly h.lt).to (KX.l g ly h1.lt)⟩;{rw[oF,eI i]};{obtain⟨act,j,_⟩:=(h1.W y n).ad;have:=ah j;omega}
def CO (C:Ctx w0 S a0 c0 a1 c1)(w:E)(nm:F_)(i:Nat)(h:MI w0 S mb mp (Z a0 S.n0 c0) (Z a1 S.n1 c1) w y_ y_ q_ G V mk md)(p:PG S y_ q_)(q:aS q_ nm=Y)(h2:atI (nm0 S.f0) S.n0 nm=Q i):Calls Pg 151 #[.pointer (Q (T mb 0 Y)),U nm] w λe ZT=>dQ w0 S mb mp (Z a0 S.n0 c0) (Z a1 S.n1 c1) y_ q_ G V w nm e ZT (ee q_ ⟨nm,1,0,(S.f0 i).H,0,[]⟩):=by
 obtain⟨g,m0,y,-⟩:=h.ab.y;have n:=ae h;have B:=ae p;have ZX:=ae q;have D:=ae h2;have m:=ae C;have u:aF (nm0 S.f0) S.n0 nm=ZH:=by rw[iJ,h2];rfl
 have s:i<S.n0:=(bu h2).1;have hsm:=C.ok.bb;obtain⟨bs,os,rfl,f⟩:=C.src.resolve_left (by omega);have b:=ae f;clear h p q h2 C f;go_enter func151,ntmps151;go_wp2_with fail;refine(fe _ S.n0 c0 a1 S.n1 c1 S.f0 nm w (by omega) (m.src.aa n.ak ly) m.ok.asc0).P ?_;rintro e w1⟨j,rfl,r,x,t,l⟩;obtain rfl:j=i:=CK m.ok.asc0 D r x t;have ZW:=ae l;have o:=ae (n.aa l ly);obtain⟨q0,q1⟩:=(b.aa o.ak ly).2 j s;have hbs:=(b.aa o.ak ly).1;clear l x t r m0 y g;obtain⟨g,m0,y,-⟩:=o.ab.y;rw[u];have hI:(j:Int)<S.n0:=by omega
 go_wp2_with fail;go_ret;exact ti n B ZX ZW 1 (by decide) _
def Ap (C:Ctx w0 S a0 c0 a1 c1)(w:E)(nm:F_)(h:MI w0 S mb mp (Z a0 S.n0 c0) (Z a1 S.n1 c1) w y_ y_ q_ G V mk md)(s:PG S y_ q_)(x:aS q_ nm=Y)(h2:atI (nm0 S.f0) S.n0 nm=Y)(t:atI (nm1 S.f1) S.n1 nm=Y):Calls Pg 151 #[.pointer (Q (T mb 0 Y)),U nm] w λe B=>dQ w0 S mb mp (Z a0 S.n0 c0) (Z a1 S.n1 c1) y_ q_ G V w nm e B (ee q_ ⟨nm,2,0,⟨#[]⟩,0,[]⟩):=by
 obtain⟨f,m0,n,-⟩:=h.ab.y;have l:=ae h;have y:=ae s;have D:=ae x;have g:=ae C;have q:aF (nm0 S.f0) S.n0 nm=ZA:=by rw[iJ,h2];rfl
 have o:aF (nm1 S.f1) S.n1 nm=ZA:=by rw[iJ,t];rfl
 have hsm:=C.ok.bb;clear h s x h2 t C;go_enter func151,ntmps151;go_wp2_with fail;refine(fe _ S.n0 c0 a1 S.n1 c1 S.f0 nm w (by omega) (g.src.aa l.ak ly) g.ok.asc0).P ?_;rintro e ZX⟨j,rfl,p,i,m,b⟩;have r:=ae b;have u:=ae (l.aa b ly);clear b i m p m0 n f;obtain⟨f,m0,n,-⟩:=u.ab.y;rw[q];go_wp2_with fail;refine(fU a0 S.n0 c0 _ S.n1 c1 S.f1 nm ZX (by omega) (g.w.aa u.ak ly) g.ok.asc1).P ?_;rintro e w2⟨j2,rfl,p,i,m,b⟩;have ZW:=ae (r.k (b.P r.size));clear b i m p m0 n f;rw[o];go_wp2_with fail;go_ret;exact ti l y D ZW 2 (by decide) _
def CQ (C:Ctx w0 S a0 c0 a1 c1)(n:Nat)(HL:∀m,n=m+1->jX w0 S mb mp (Z a0 S.n0 c0) (Z a1 S.n1 c1) m)(w:E)(nm:F_)(tg:Nat)(aq:ZU y_+n=60)(h:MI w0 S mb mp (Z a0 S.n0 c0) (Z a1 S.n1 c1) w y_ y_ q_ G V mk md)(hp:PG S y_ q_)(ZW:eX S y_ q_ 1)(hn:aA nm=ZH)(h0:aS q_ nm=Y)(h1:atL y_ nm=Y)(h2:atI (nm0 S.f0) S.n0 nm=Y)(B:atI (nm1 S.f1) S.n1 nm=Q tg):Calls Pg 151 #[.pointer (Q (T mb 0 Y)),U nm] w λe o=>dQ w0 S mb mp (Z a0 S.n0 c0) (Z a1 S.n1 c1) y_ q_ G V w nm e o (nR S n y_ q_ nm tg):=by
 obtain⟨y,m0,O,-⟩:=h.ab.y;have HM:=ae h;have ZT:=ae C;have H3:=ae B;have ld:aF (nm0 S.f0) S.n0 nm=ZA:=by rw[iJ,h2];rfl
 have bt:aF (nm1 S.f1) S.n1 nm=ZH:=by rw[iJ,B];rfl
 have W:tg<S.n1:=(bu B).1;have n9:(S.f1 tg).e=nm:=(bu B).2;have hsm:=C.ok.bb;obtain⟨K,os,rfl,ZS⟩:=C.w.resolve_left (by omega);have i:=ae ZS;have HX:Hid (∀(l:E) (a:O_) (j_:Nat),Below (z (A w)) w l->SlIns w0 a (S.f1 tg).h (S.f1 tg).q->Calls Pg 178 #[.pointer (Q (T mb 0 Y)),ZJ #[U nm,Z a (S.f1 tg).h j_]] l λe o=>dQ w0 S mb mp (Z a0 S.n0 c0) (Z (Q (T K os Y)) S.n1 c1) y_ q_ G V w nm e o (nR S n y_ q_ nm tg)):=by
  intro l a j_ hb s;have hw:∀e o res,dQ w0 S mb mp (Z a0 S.n0 c0) (Z (Q (T K os Y)) S.n1 c1) y_ q_ G V l nm e o res->dQ w0 S mb mp (Z a0 S.n0 c0) (Z (Q (T K os Y)) S.n1 c1) y_ q_ G V w nm e o res:=by
   intro e o res r;have ZM:Below (z (A w0)) w l:=hb.P h.lt;rcases res with⟨P,x⟩|c|d;{obtain⟨t,mm,G',V',ZN,ZO,v',eb,f,g,D,q4,q5,q6,q7,q8,q9,fd,n8,qr,ph,la⟩:=r;exact⟨t,mm,G',V',ZN,ZO,v',eb,f,g,D,q4,q5,q6,q7,q8,q9,fd,nX hb.size n8,λk hk=>nX hb.size (qr k hk),ph.P hb.size,(KX.l (X:=XN) hb ly h.lt).to la⟩};{obtain⟨u,f,g,D⟩:=r;exact⟨u,f,g,ZM.k D⟩};{obtain⟨f,D⟩:=r;exact⟨f,ZM.k D⟩}
  cases n with
  |zero =>refine(xE l a _ j_ nm (h.aa hb ly) (by omega)).P ?_;rintro e o⟨f,g⟩;exact hw _ _ _ ⟨f,g.P (nX h.lt hb.size)⟩
  |succ m =>exact(Ao C m (HL m rfl) l a j_ tg nm aq (h.aa hb ly) hp ZW hn h0 h1 B s).P λe o q=>hw _ _ _ q
 obtain⟨R,hR⟩:∃R,R=nR S n y_ q_ nm tg:=⟨_,rfl⟩
 rw[<-hR] at HX ⊢;clear h hp h0 h1 h2 B C ZS ZW HL hn hR;go_enter func151,ntmps151;go_wp2_with fail;refine(fe _ S.n0 c0 _ S.n1 c1 S.f0 nm w (by omega) (ZT.src.aa HM.ak ly) ZT.ok.asc0).P ?_;rintro e w1⟨j,rfl,L,ZQ,M,ZX⟩;have B1:=ae ZX;have M1:=ae (HM.aa ZX ly);clear ZX ZQ M L m0 O y;obtain⟨y,m0,O,-⟩:=M1.ab.y;rw[ld];go_wp2_with fail;refine(fU a0 S.n0 c0 _ S.n1 c1 S.f1 nm w1 (by omega) (ZT.w.aa M1.ak ly) ZT.ok.asc1).P ?_;rintro e l⟨H,rfl,L,ZQ,M,ZX⟩;obtain rfl:H=tg:=CK ZT.ok.asc1 H3 L ZQ M;have B2:=ae (B1.k (ZX.P B1.size));have ZR:=ae (HM.aa B2 ly);clear ZX ZQ M L m0 O y;obtain⟨y,m0,O,-⟩:=ZR.ab.y;obtain⟨q0,aa,ca,f,-⟩:=(i.aa ZR.ak ly).2 H W;obtain⟨-,aa',ca',ZP,s⟩:=i.2 H W;have ZL:=i.1;have e1:=(ZR.ak.O (p:=(T K (os+H*2+1) Y)) ZL).k ZP;rw[f] at e1;simp only[ND,IS,TX] at e1;obtain⟨rfl,rfl⟩:=e1;have mv:=ae s;have hbs:=(i.aa ZR.ak ly).1;rw[n9] at q0;clear ZP s;rw[bt];have hI:(H:Int)<S.n1:=by omega
 go_wp2_with fail;refine(HX l aa ca B2 mv).P ?_;intro e w3 b;rcases R with⟨P,x⟩|c|d;{have ex:=ae b;obtain⟨t,mm,G',V',ZN,ZO,v',eb,-,-,rfl,-⟩:=b;go_wp2_with fail;go_ret;exact ex};{obtain⟨u,rfl,f,g⟩:=b;go_wp2_with fail;exact⟨rfl,u,rfl,f,g⟩};{obtain⟨rfl,g⟩:=b;go_wp2_with fail;exact⟨rfl,rfl,g⟩}
end
section
variable {w0:E}{S:J_}{a0 a1:O_}{c0 c1 mb mp:Nat}{mk md:ZB}{y_:List F_}{q_:List k_}{G:F_->Nat}{V:F_->ZB}
def Aq{s0 s1:ZB}{l:E}(q:z (A w0)<=z (A w))(hb:Below (z (A w)) w l):∀e m res,dQ w0 S mb mp s0 s1 y_ q_ G V l nm e m res->dQ w0 S mb mp s0 s1 y_ q_ G V w nm e m res:=by
 intro e m res b;have i:Below (z (A w0)) w l:=hb.P q;rcases res with⟨made',x⟩|c|d;{obtain⟨h,ZT,ZR,C,r,p,ZX,K,g,j,f,ZS,ZW,D,L,B,M,n,o,s,y,t⟩:=b;exact⟨h,ZT,ZR,C,r,p,ZX,K,g,j,f,ZS,ZW,D,L,B,M,n,nX hb.size o,λk H=>nX hb.size (s k H),y.P hb.size,(KX.l (X:=XN) hb ly q).to t⟩};{obtain⟨u,g,j,f⟩:=b;exact⟨u,g,j,i.k f⟩};{obtain⟨g,f⟩:=b;exact⟨g,i.k f⟩}
def F0 (w:E)(nm:F_)(R:Out k_)(h:MI w0 S mb mp (Z a0 S.n0 c0) (Z a1 S.n1 c1) w y_ y_ q_ G V mk md)(hml60:ZU y_<=60)(hn:nm.size<=60)(h0:aS q_ nm=Y)(h1:atL y_ nm=Y)(l:∀i x,R=.inl (i,x)->ZU i<=60000)
  (HF:∀W,Below (z (A w)) w W->Calls Pg 151 #[.pointer (Q (T mb 0 Y)),U nm] W λe H=>dQ w0 S mb mp (Z a0 S.n0 c0) (Z a1 S.n1 c1) y_ q_ G V w nm e H R) :
  Calls Pg 116 #[.pointer (Q (T mb 0 Y)),U nm] w λe H=>vT w0 S mb mp (Z a0 S.n0 c0) (Z a1 S.n1 c1) y_ q_ G V w e H R:=by
 obtain⟨i1,hi,n9,sm,la⟩:=qP FQ;have HV:=ae (show(dK G y_ q_ nm.toList).getD (ZJ #[J I 0,.pointer Y])=ZJ #[J I 0,.pointer Y] by rw[iO h0,h1];rfl);have mv:=ae (show(dK G y_ q_ nm.toList).isSome=ZA by rw[iO h0,h1];rfl);have HM:=ae h;have ld:=ae HF;have fd:=ae l;obtain⟨hl,-,-,c2,-,-,-⟩:=h.ab.y;have O:nm.size<=maxLen:=by unfold maxLen;omega
 have hz:=pH;have B1:=ae ((BS w).alloc ly (N #[J I 0,.pointer Y] 225));clear h h0 h1 HF l;go_enter func116,ntmps116
 go_wp2_with (first
  |(at_lookup;refine jk _ rfl _ _ 178 rfl 225 TW (hz _) mp _ _ rfl HM.map nm rfl O _ HV ZA mv ?_)
  |fail)
 clear c2;generalize World.alloc w _=W1 at B1 ⊢;refine(ld W1 B1).P ?_;intro e w1 f;rcases R with⟨i,x⟩|c|d
 ·obtain⟨b,mm,G1,V1,mk1,md1,v1,ZS,rfl,s,rfl,q,bt,ZL,ZM,L,has,aq,th,K,ZR,P⟩:=f;have ur:ZU b<=60000:=by have:=fd.i _ _ rfl;simp at this;omega
  have hmml:ZU mm<=ZU y_+1:=by rcases s with rfl|rfl<;>simp
  obtain⟨ap,cp,rfl⟩:=bM q.X;have M1:=ae q;have E1:=ae bt;have r:=ae ZL;have n8:=ae ZM;have P1:=ae L;have qr:=ae has;have F1:=ae aq;have ro:=ae K;have X1:=ae ZR;have K1:=ae P;have MM:=ae s;obtain⟨o,ZX⟩:∃o,o=ZU b:=⟨_,rfl⟩
  have j:=ae ZX;obtain⟨ZQ,-,-,m2,-,ZT,-⟩:=q.ab.y;rw[<-ZX] at ZT ur;clear q bt ZL ZM L has aq K ZR P s ZX
  go_wp2_with (first
   |(at_mapUpdate;refine Al _ rfl _ _ _ 178 rfl 225 TW mp _ _ rfl M1.map (by unfold maxLen;have:=j.i;omega) nm (ZJ #[J I 0,.pointer (Q (T ZS 0 Y))]) rfl rfl O ?_;intro D ZP ZN;have C:=ae (M1.mapped ZN ZP);clear ZP ZN m2 ZT ZQ;obtain⟨ZQ,-,-,-,-,ZT,mf⟩:=C.1.ab.y;rw[<-j.i] at ZT;have AB:=ae ((BS D).alloc ly (N #[.pointer (Q (T ZS 0 Y))] 131));have g:=ae (C.1.aa AB ly);have RD:=ae (by have h:=g.X;rw[<-j.i] at h;exact h))
   |(at_builtin;refine DN _ rfl (.tmp 49) (.tmp 51) 128 rfl (z (A w0)) 131 i1 (.pointer Y) 1 8 underlying128 hi n9 sm la rfl (by decide) (Z ap o cp) o (jW G1 b) (by simp[Act.eval]) RD.i (T (z (A D)) 0 Y) 1 1 [.pointer (Q (T ZS 0 Y))] (by simp[Act.eval]) rfl (CJ D _ _) (by simp[Value.oneCell']) (by unfold maxLen;omega) (by omega) g.lt ?_;intro v3 w3 m p ex;have O3:=ae m;have B:=ae p;obtain⟨g4,ZW,cur4,rfl,ph⟩:=m.2.resolve_left (λh=>by omega);clear ph m p ex;have t:Hid (Q mb≠(Value.slice ap o cp).ownBlock):=(λe=>by obtain⟨_,_,cs,hc⟩:=af RD mb e.c;exact absurd (ar g.ab hc) (by decide));have s4:=(cq (a:=(T mb 4 Y)) (B.p mb (ah g.ab) t)).k g.ab.y.2.2.2.2.2.1;have f4:=(NG (a:=(T mb 4 Y)) (B.p mb (ah g.ab) t)).k (g.ab.y.2.2.2.2.2.2 4);have hml3:mb<z (A w3):=lj (ah g.ab) B.size)
   |fail)
  go_ret;have h5:=g.mded (w':=w3) (np':=ZU b+1) (ps':=jW G1 b++[.pointer (Q (T ZS 0 Y))]) (v:=Z (Q (T g4 0 Y)) (o+1) ZW) (by rw[<-j.i];exact B) (by rw[<-j.i];exact O3);have M:KX (z (A w0)) XN w1 (w3.setCell (T mb 4 Y) (Z (Q (T g4 0 Y)) (o+1) ZW)):=(C.2.to (KX.l (X:=XN) AB ly C.1.lt)).to h5.2;have ZO:aS b nm=Y:=SE.2 λy hy=>by intro e2;exact n8 y hy (Qw e2)
  have h6:=MIg.added (x:=x) h5.1 P1 ZO r MM (by omega) (E1.kx M (λh=>h) (λ_ _ h=>h)) F1 qr;exact⟨_,_,_,_,(by rw[r.i,ft];rfl),h6,X1.k (Ie (n:=z (A w)) ZO r th ro) ly,K1.to M⟩
 {obtain⟨u,rfl,q1,q2⟩:=f;go_wp2_with fail;exact⟨rfl,u,rfl,q1,q2⟩};{obtain⟨rfl,q2⟩:=f;go_wp2_with fail;exact⟨rfl,rfl,q2⟩}
def F3 (C:Ctx w0 S a0 c0 a1 c1):∀n,jX w0 S mb mp (Z a0 S.n0 c0) (Z a1 S.n1 c1) n:=by
 have o:∀n,(∀m,n=m+1->jX w0 S mb mp (Z a0 S.n0 c0) (Z a1 S.n1 c1) m)->jX w0 S mb mp (Z a0 S.n0 c0) (Z a1 S.n1 c1) n:=by
  intro n y y_ q_ G V mk md w nm s h p b hn;have j:=nS hn;have g:=iq S n y_ q_ nm;rw[jT] at g ⊢;unfold dB at g ⊢;cases h0:aS q_ nm with
  |some e =>refine(FM w nm h j e h0).P ?_;rintro r q⟨rfl,hb⟩;exact⟨G,V,mk,md,rfl,h.aa hb ly,Ext.refl _ _ _ _,KX.l hb ly h.lt⟩
  |none =>
   cases h1:atL y_ nm with
   |some i =>refine(xD w nm h j (by omega) h0 i h1).P ?_;rintro r q⟨u,rfl,ZT,ZX⟩;exact⟨u,rfl,aE ZT h.lt,ZX.P h.lt⟩
   |none =>
    rw[h0] at g;simp only[h1] at g;dsimp only;refine F0 w nm _ h (by omega) j h0 h1 (λl x B=>?_) λW ZW=>?_;{have:=g l x B;unfold eX at b;unfold fO at this;omega}
    ·refine Calls.mono ?_ λe q=>Aq h.lt ZW e q _;have f:=h.aa ZW ly;unfold eW;cases h2:atI (nm0 S.f0) S.n0 nm with
     |some i=>exact CO C W nm i f p h0 h2
     |none =>
      cases h3:atI (nm1 S.f1) S.n1 nm with
      |some t=>exact CQ C n y W nm t s f p b hn h0 h1 h2 h3
      |none=>exact Ap C W nm f p h0 h2 h3
 intro n;induction n with
 |zero=>exact o 0 λm e=>by omega
 |succ n D=>exact o (n+1) λm e=>by cases e;exact D
end
