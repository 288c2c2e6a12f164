import Derived.Test.YtcnilonhfpimnaaGreatDoorDI
import Derived.Test.YtcnilonhfpimnaaGreatDoorDD
import Derived.Test.YtcnilonhfpimnaaGreatDoorDH
set_option linter.all false
set_option maxRecDepth 100000
set_option maxHeartbeats 16000000
open Go renaming Addr.mk->T,Value.slice->Y,Value.string->U,Value.bool->ZF,Value.agg->ZJ,Obj.cells->N,World->E,Ending.returned->ZI,World.heap->J,World.cell?->ZU,Act.put->p_,Calls->Qw
open Option renaming none->Z,some->Q
open Bool renaming false->ZA,true->ZH
open Array renaming size->I
open List renaming length->B
namespace Go.Proofs.YtcnilonhfpimnaaGreatDoor.Vp
open Tryz RowKit Ca
variable {S:xl}{n j_:Nat}{f:Nat->au}{a a0 a1:O_}{t:F_}
def PP.aa{V X:E}{p g m c b:Nat}{h:Nat->Ins}(e:PP V p g m c h)(y:Below b V X)(l:I (J V)<=b):PP X p g m c h:=⟨e.p.aa y l,e.i.aa y l⟩
def qY{c0 c1:Nat}(w:E)(hn:(n:Int)<=1048576)(hn0:S.n0<=1048576)(hn1:S.n1<=1048576)(s:SlDeed w a n f)(p:(n:Int)<=j_)(g:∀i,i<n->cX (f i))(m:Qx w a0 S.n0 S.f0)(l:Qq w a1 S.n1 S.f1)(j:∀i,i<S.n1->aP (S.f1 i))(o:Tab w)(h:Tab2 w)(t:Pow w):Qw Tryz.prog 5 #[ZJ #[Y a n j_],ZJ #[Y a0 S.n0 c0,Y a1 S.n1 c1]] w λe x=>e=ZI (.int .i64 (fj S.n0 S.f0 S.n1 S.f1 f n).1)/\Below (I (J w)) w x:=by have b:=ae (((BS w).alloc ly (N #[Y a n j_] 25)).alloc (by simp) (N #[Y a0 S.n0 c0,Y a1 S.n1 c1] 29));have C:=ae (t6 a n j_ f a0 S.n0 c0 S.f0 a1 S.n1 c1 S.f1 _ hn (by omega) (by omega) (s.aa b ly) p g (m.aa b ly) (l.aa b ly) j (o.aa b o.1) (h.aa b h.1) (t.aa b ly));clear s m l g j o h t;generalize fj S.n0 S.f0 S.n1 S.f1 f n=q at C ⊢;go_enter func5,ntmps5;go_wp2_with fail;refine C.P ?_;rintro e w1⟨rfl,r⟩;have u:=ae (b.k (r.P b.size));clear r;go_wp2;go_ret;exact⟨rfl,u⟩
def mQ{c0 c1:Nat}{key:F_}(w:E)(hA:bc f n=ZH)(L:SlDeed w a n f)(aq:(n:Int)<=j_)(o:∀i,i<n->cX (f i))(ZM:∀i,i<n->fo (f i))(G:Qx w a0 S.n0 S.f0)(ZS:Qq w a1 S.n1 S.f1)(hn0:S.n0<=1048576)(hn1:S.n1<=1048576)(C:∀i,i<S.n1->aP (S.f1 i))(hL:∀V,Below (I (J w)) w V->Tab V/\Tab2 V/\Pow V)(ht:(f (n - 1)).e=t)(hk:key.toList ∉ ii f n->(fj S.n0 S.f0 S.n1 S.f1 f n).1=0):Qw Tryz.prog 15 #[ZJ #[Y a n j_],ZJ #[Y a0 S.n0 c0,Y a1 S.n1 c1],U t,U key] w λe w'=>e=ZI (ZF ZH)/\Below (I (J w)) w w':=by
 have hn:=er hA;have ZL:(n:Int)<=1048576:=by omega
 have SI:Hid _:=Dw (S:=S) hA;rw[ht] at SI;obtain⟨ZO,y⟩:∃W:E,(w.alloc (N #[Y a n j_] 25)).alloc (N #[Y a0 S.n0 c0,Y a1 S.n1 c1] 29)=W:=⟨_,rfl⟩
 obtain⟨p,-,KS,-⟩:=nb2 y;replace KS:=KS.i;replace p:=p.i;have s:=ae y;clear y;have CM:=ae (wA (S:=S) (a0:=a0) (a1:=a1) (c0:=c0) (c1:=c1) _ t (G.aa p ly) (ZS.aa p ly) hn0 hn1 C (hL _ p).1 (hL _ p).2.1 (hL _ p).2.2);have CA:=ae (λV (l:Below (I (J w)) w V)=>qY (S:=S) (a:=a) (n:=n) (j_:=j_) (c0:=c0) (c1:=c1) (f:=f) V ZL hn0 hn1 (L.aa l ly) aq o (G.aa l ly) (ZS.aa l ly) C (hL V l).1 (hL V l).2.1 (hL V l).2.2);have CN:=ae (λV (l:Below (I (J w)) w V)=>mW a n j_ f V ZL (L.aa l ly) o ZM);have CW:=ae (λV (l:Below (I (J w)) w V) a' m c' g hg=>wO a n j_ f a' m c' g V (by omega) (L.aa l ly) hg o);have u:=uM f n;have KA:ZO.heap[I (J w)]?=Q (N #[Y a n j_] 25 (0,0)):=by rw[<-s.i];rw[UK _ _ (by simp)];exact gM w _
 have A1:=ae p;have HK:=ae hk;have K1:=ae KA;have K2:=ae KS;clear hA L o ZM G ZS C hL ht hk p KA KS;generalize ii f n=NL at CN HK u;generalize (fj S.n0 S.f0 S.n1 S.f1 f n).1=q at CA HK SI;go_enter func15,ntmps15;go_upto_region 1 with fail;rw[s.i];clear s;have l0:=aj K1.i;have l1:=aj K2.i;have hw:=A1.size;have A:Hid (∀V,Below (I (J ZO)) ZO V->ZU V (T (I (J w)) 0 Z)=Q (Y a n j_)/\ZU V (T (I (J w)+1) 0 Z)=Q (Y a0 S.n0 c0)/\ZU V (T (I (J w)+1) 1 Z)=Q (Y a1 S.n1 c1)):=λV l=>by have p0:=(l.p _ l0).k K1.i;have p1:=(l.p _ l1).k K2.i;refine⟨?_,?_,?_⟩<;>simp[World.cell?,p0,p1]
 obtain⟨z0,z1,z2⟩:=A.i ZO br;go_wp2_with fail;refine CM.i.P ?_;rintro e P⟨d,dc,R,rv,rfl,hD,r,⟨ra,rk,rfl,-⟩,j⟩;have H:=hD.bd;rw[r] at H;have HN:=ae (show (B R)=(bE S t).1.length by have:=xT List.length r;simpa[bk] using this);clear z0 z1 z2 CM hD r;generalize (bE S t).2=rs;obtain⟨M,z⟩:∃W:E,(P.alloc (N #[Y d (B R) dc] 25)).alloc (N #[.int .i64 rs.M,U rs.H,Y ra (B rs.R) rk] 88)=W:=⟨_,rfl⟩
 obtain⟨ZT,-,-,-⟩:=nb2 z;replace ZT:=ZT.i;have x:=ae z;clear z;have kA:M.heap[I (J P)]?=Q (N #[Y d (B R) dc] 25 (0,0)):=by rw[<-x.i];rw[UK _ _ (by simp)];exact gM P _
 have ZR:=ae (j.k (ZT.P j.size));have D2:=ae (H.aa ZT ly);have O:=ae kA;clear ZT kA j H;go_upto_region 2 with fail;rw[x.i];clear x;generalize (I (J P))=ab at O ⊢;generalize (B R)=ZQ at D2 O HN ⊢;have k3:=O.i;have l3:=aj k3;have x0:ZU M (T ab 0 Z)=Q (Y d ZQ dc):=by simp[World.cell?,k3]
 clear k3 O;obtain⟨z0,-,-⟩:=A.i M ZR;have K:=ae (A1.k (ZR.P hw));go_wp2_with fail;refine(CW.i M K _ _ _ _ D2).P ?_;rintro e w3⟨b,rfl,hb,j⟩;have HQ:Hid (b=ZH ↔ q=0):=by rw[hb,HN.i];exact SI.i
 have X:=ae (ZR.k (j.P ZR.size));have ZP:=ae (K.k (j.P K.size));clear hb j x0 z0 l3 CW D2 HN SI ZR K;obtain⟨z0,z1,z2⟩:=A.i w3 X;go_wp2_with fail;refine(CA.i w3 ZP).P ?_;rintro e w4⟨rfl,j⟩;have B4:=ae (X.k (j.P X.size));have ZN:=ae (ZP.k (j.P ZP.size));clear j z0 z1 z2 CA X ZP;obtain⟨z0,-,-⟩:=A.i w4 B4;go_wp2_with fail;refine(CN.i w4 ZN).P ?_;rintro e w5⟨nb,no,m,nc,rfl,rfl,D,j⟩;have E5:=ae (ZN.k (j.P ZN.size));clear j z0 CN B4 ZN A;go_wp2_with fail;refine(rY (Q (T nb no Z)) (B NL) nc (nmF NL) key w5 u (.inr ⟨nb,no,rfl,D⟩)).P ?_;rintro e w6⟨b2,rfl,ZV,j⟩;have E6:=ae (E5.k (j.P E5.size));rw[Is] at ZV;have H2:=ae ZV;clear ZV j D E5 u;cases b2 with
 |false =>
  obtain rfl:q=0:=HK.i λh=>by have:=H2.i.2 h;cases this
  obtain rfl:b=ZH:=HQ.i.2 rfl;go_wp2;go_ret;exact⟨rfl,E6⟩
 |true =>
  cases b with
  |true =>obtain rfl:q=0:=HQ.i.1 rfl;go_wp2;go_ret;exact⟨rfl,E6⟩
  |false =>
   have h0:(q == 0)=ZA:=by simpa using λh=>by have:=HQ.i.2 h;cases this
   go_wp2;go_ret;exact⟨rfl,E6⟩
def tw{n0:Nat}{f0:Nat->Source}{n1:Nat}{f1:Nat->Target}(h:ij n0 f0 n1 f1 t=0):Besd ⟨n0,f0,n1,f1⟩ (spL (eB n0 f0 n1 f1 t) (fa n0 f0 n1 f1 t)) t/\aR (eB n0 f0 n1 f1 t).length (aV (eB n0 f0 n1 f1 t)) (fa n0 f0 n1 f1 t).length (aW (fa n0 f0 n1 f1 t))=0:=by
 have f:aR n0 f0 n1 f1=0:=by
  have b:=h;unfold ij at b;split at b;{cases b};{omega}
 rw[eB,fa,eT h,eT h];exact⟨sd (λ_ _=>Iff.rfl) (λ_ _=>Iff.rfl),jv (iY t f)⟩
def Gw (h:(fj S.n0 S.f0 S.n1 S.f1 f n).1=0):bc f n=ZH/\∀p,p<n->Borne S f p:=by
 have b:bc f n=ZH:=by
  cases e:bc f n with
  |true=>rfl
  |false =>unfold fj at h;rw[e,eI (by simp)] at h;cases h
 exact⟨b,((r9 (S:=S) b).1 h).2⟩
def Gx (a:O_)(n j_:Nat)(b:O_)(m f:Nat)(w:E)(h:1048576<(n:Int)\/1048576<(m:Int)):Qw Tryz.prog 3 #[Y a n j_,Y b m f] w λe g=>e=ZI (ZF ZH)/\Below (I (J w)) w g:=by
 by_cases h1:1048576<(n:Int)
 case' neg=>have h2:1048576<(m:Int):=h.resolve_left h1
 all_goals
  go_enter Y9,ntmps3;go_wp2;go_ret;exact⟨rfl,a8 _ _⟩
def uc (a:O_)(n j_:Nat)(b:O_)(m W:Nat)(w:E)(hc:n<=j_)(qr:m<=W)(hS:ByteSl w a n)(n9:ByteSl w b m)(hT:Tab w)(ph:Tab2 w)(hP:Pow w):Qw Tryz.prog 3 #[Y a n j_,Y b m W] w λe w'=>e=ZI (ZF ZH)/\Below (I (J w)) w w':=by
 by_cases ex:1048576<(n:Int)\/1048576<(m:Int)
 {exact Gx a n j_ b m W w ex};have h1:¬ 1048576<(n:Int):=λh=>ex (.inl h);have h2:¬ 1048576<(m:Int):=λh=>ex (.inr h);have LY:=ae (λV (o:Below (I (J w)) w V)=>(⟨hT.aa o hT.1,ph.aa o ph.1,hP.aa o ly⟩:Tab V/\Tab2 V/\Pow V));have DM:=ae (ua a n j_ w (by omega) hc hS);have DS:=ae (λV (o:Below (I (J w)) w V)=>od b m W V (by omega) qr (n9.aa o ly));have DT:=ae (λV (o:Below (I (J w)) w V)=>vR b m W V (by omega) qr (n9.aa o ly));clear hT ph hP hS n9 hc qr ex;go_enter Y9,ntmps3;go_wp2_with fail;refine DM.i.P ?_;rintro e w1⟨a0,n0,c0,f0,a1,n1,c1,f1,d,ZQ,dc,f,rfl,hH,hA,-,DQ⟩;clear DM h1 h2;have hn0:=hH.hn0;have hn1:=hH.hn1;have hN:=hA.hn;have hcap:=hA.j_;have bt:=ae (show ∀i,i<n1->aP (f1 i) from λi hi=>by have:=(hH.aq i hi).1;unfold aP;omega);have la:=ae (show ∀i,i<n1->∀j,j<(f1 i).h->((f1 i).q j).s.size<=maxLen from λi hi j hj=>by have:=(hH.aq i hi).2 j hj;unfold maxLen;omega);have R:=ae (λi hi=>(hA.aq i hi).fits);have aq:=ae (λi hi=>(hA.aq i hi).sized);have ZT:=ae (Jh (c0:=c0) (c1:=c1) hH hA DQ);clear hH hA DQ;go_upto_region 4 with fail;generalize World.alloc (World.alloc w1 _) _=W1 at ZT ⊢;generalize (I (J w1))+1=sb at ZT ⊢;generalize (I (J w1))=ab at ZT ⊢;have PF:Hid _:=Gw (S:=⟨n0,f0,n1,f1⟩) (f:=f) (n:=ZQ);have CA:=ae (λV (o:Lw w ab sb d ZQ dc f a0 n0 c0 f0 a1 n1 c1 f1 V)=>qY (S:=⟨n0,f0,n1,f1⟩) (a:=d) (n:=ZQ) (j_:=dc) (c0:=c0) (c1:=c1) (f:=f) V (by omega) (by show n0<=_;omega) (by show n1<=_;omega) o.dd (by omega) R o.s0 o.s1 bt (LY.i V o.b).1 (LY.i V o.b).2.1 (LY.i V o.b).2.2);have CG:=ae (λV (o:Lw w ab sb d ZQ dc f a0 n0 c0 f0 a1 n1 c1 f1 V)=>t8 d ZQ dc f a0 n0 c0 f0 a1 n1 c1 f1 V (by omega) (by omega) (by omega) o.dd R aq o.s0 o.s1 bt la);simp only at PF CA;generalize fj n0 f0 n1 f1 f ZQ=q at PF CA CG;obtain⟨q1,q2⟩:=q;obtain⟨y0,y1,x0⟩:=ZT.i.c;go_wp2_with fail;refine(CA.i _ ZT).P ?_;rintro e w2⟨rfl,r⟩;replace ZT:=ae (ZT.i.aa r);clear r x0 y0 y1 CA;by_cases hq:q1=0;case neg =>
  have hc:(q1 == 0)=ZA:=by simpa using hq
  obtain⟨y0,y1,x0⟩:=ZT.i.c;go_wp2_with fail;refine(CG.i _ ZT).P ?_;rintro e w3⟨rfl,r⟩;have B9:=ae (ZT.i.aa r).b;clear r x0 y0 y1 CG;go_wp2;go_ret;exact⟨rfl,B9⟩
 obtain⟨ld,At⟩:=PF.i hq;subst hq;have hpos:=(er ld).1;have ZL:=ae ld;have mv:=ae At;clear ld At PF CG;go_wp2_with fail;refine(DT.i _ ZT.b).P ?_;rintro e w3⟨p0,q0,r0,p1,q1,r1,l,g,A,pc,H,rfl,hI,hpm,Hx,r⟩;have A9:=((BS w3).alloc ly (N #[Y p0 q0 r0,Y p1 q1 r1] 29)).alloc (by simp) (N #[Y (Q (T g 0 Z)) A pc] 37);replace ZT:=ae (ZT.i.aa (r.k (A9.P r.size)));have GS:=ae (show ∀j,j<A->(H j).s.size<=maxLen from λj hj=>by have:=Hx j hj;unfold maxLen;omega);have ZS:Hid (PP ((w3.alloc (N #[Y p0 q0 r0,Y p1 q1 r1] 29)).alloc (N #[Y (Q (T g 0 Z)) A pc] 37)) (I (J w3)+1) g A pc H):=⟨SL w3 _ _,hI.aa A9 ly⟩
 clear A9 r DT hI Hx;go_upto_region 8 with fail;generalize World.alloc (World.alloc w3 _) _=W3 at ZT ZS ⊢;generalize (I (J w3))+1=pb at ZS ⊢;go_wp2_with fail;refine(DS.i _ ZT.b).P ?_;rintro e w4⟨p0,q0,r0,-,p1,q1,r1,-,key2,tx,rfl,-,r⟩;have A8:=(BS w4).alloc ly (N #[Y p0 q0 r0,Y p1 q1 r1] 29);have y:=r.k (A8.P r.size);replace ZT:=ae (ZT.i.aa y);replace ZS:=ae (ZS.aa y ly);clear A8 y r DS;go_upto_region 9 with fail;generalize World.alloc w4 _=W4 at ZT ZS ⊢;obtain⟨NL,sm⟩:∃NL,NL=ii f ZQ:=⟨_,rfl⟩
 have th:B NL<=1048576:=by rw[sm];exact uM f ZQ
 have EN:=ae sm;clear sm;have x0:=ZT.ax.c0;go_wp2_with fail;refine(tS d ZQ dc f _ (by omega) ZT.dd (by omega) R aq (LY.i _ ZT.b).1).P ?_;rintro e w5⟨v,rfl,ho,r⟩;rw[<-EN.i] at ho;obtain⟨na,nc,rfl⟩:=aJ ho;have N5:=ae (Ir ho);replace ZT:=ae (ZT.i.aa r);replace ZS:=ae (ZS.aa r ly);clear ho r x0;go_wp2_with fail;refine(rY na (B NL) nc (nmF NL) l w5 th N5).P ?_;rintro e w6⟨bi,rfl,Fd,r⟩;replace ZT:=ae (ZT.i.aa r);replace ZS:=ae (ZS.aa r ly);have ro:=ae Fd;clear r Fd N5;cases bi with
 |true =>have x0:=ZT.ax.c0;go_wp2_with fail;refine(mW d ZQ dc f _ (by omega) ZT.dd R aq).P ?_;rintro e w7⟨b7,o7,m7,c7,rfl,Bk,hr,r⟩;rw[<-EN.i] at Bk hr;subst Bk;have R7:Hid (SlStr w7 (Q (T b7 o7 Z)) (B NL) (nmF NL)):=.inr ⟨b7,o7,rfl,hr⟩;replace ZT:=ae (ZT.i.aa r);clear hr r x0;go_wp2_with fail;refine(rY (Q (T b7 o7 Z)) (B NL) c7 (nmF NL) l w7 th R7).P ?_;rintro e w8⟨b8,rfl,Fm,r⟩;obtain rfl:b8=ZH:=Fm.2 (ro.i.1 (by simp));have B9:=ae (ZT.i.aa r).b;clear Fm r;go_wp2;go_ret;exact⟨rfl,B9⟩
 |false =>
 have Fk:l.toList ∉ ii f ZQ:=by rw[<-EN.i];intro hm;obtain⟨i,hi,e⟩:=QK hm;have:=ro.i.2 ⟨i,hi,(jM hi).k e⟩;cases this
 have NK:=ae Fk;clear Fk ro EN th;have PZ:=ae (wI (n0:=n0) (f0:=f0) (n1:=n1) (f1:=f1) (t:=l) (tx:=tx));have RZ:=ae (wJ (n0:=n0) (f0:=f0) (n1:=n1) (f1:=f1) (t:=l) (m:=A) (fp:=H));have DZ:=ae (wK (n0:=n0) (f0:=f0) (n1:=n1) (f1:=f1) (t:=l));have PM:Hid (iC n0 f0 n1 f1 l tx=0->(fj (spL (eZ n0 f0 n1 f1 l tx) (fC n0 f0 n1 f1 l tx)).n0 (spL (eZ n0 f0 n1 f1 l tx) (fC n0 f0 n1 f1 l tx)).f0 (spL (eZ n0 f0 n1 f1 l tx) (fC n0 f0 n1 f1 l tx)).n1 (spL (eZ n0 f0 n1 f1 l tx) (fC n0 f0 n1 f1 l tx)).f1 f ZQ).1=0):=λh=>mO (Dx h) (jv (FA h).1) ZL mv NK;have RM:Hid (fW n0 f0 n1 f1 l (valid H A)=0->(fj (spL (d9 n0 f0 n1 f1 l A H) (eE n0 f0 n1 f1 l A H)).n0 (spL (d9 n0 f0 n1 f1 l A H) (eE n0 f0 n1 f1 l A H)).f0 (spL (d9 n0 f0 n1 f1 l A H) (eE n0 f0 n1 f1 l A H)).n1 (spL (d9 n0 f0 n1 f1 l A H) (eE n0 f0 n1 f1 l A H)).f1 f ZQ).1=0):=λh=>mO (Dy h) (jv (Dv h).2.1) ZL mv NK;have XM:Hid (ij n0 f0 n1 f1 l=0->(fj (spL (eB n0 f0 n1 f1 l) (fa n0 f0 n1 f1 l)).n0 (spL (eB n0 f0 n1 f1 l) (fa n0 f0 n1 f1 l)).f0 (spL (eB n0 f0 n1 f1 l) (fa n0 f0 n1 f1 l)).n1 (spL (eB n0 f0 n1 f1 l) (fa n0 f0 n1 f1 l)).f1 f ZQ).1=0):=λh=>mO (tw h).1 (tw h).2 ZL mv NK;have CS:=ae (nE a0 n0 c0 f0 a1 n1 c1 f1 l tx);have CT:=ae (nG a0 n0 c0 f0 a1 n1 c1 f1 l (Q (T g 0 Z)) A pc H);have CD:=ae (nF a0 n0 c0 f0 a1 n1 c1 f1 l);generalize iC n0 f0 n1 f1 l tx=C at PM CS;generalize eZ n0 f0 n1 f1 l tx=LS at PM PZ CS;generalize fC n0 f0 n1 f1 l tx=LT at PM PZ CS;generalize fW n0 f0 n1 f1 l (valid H A)=D at RM CT;generalize d9 n0 f0 n1 f1 l A H=MS at RM RZ CT;generalize eE n0 f0 n1 f1 l A H=MT at RM RZ CT;generalize ij n0 f0 n1 f1 l=G at XM CD;generalize eB n0 f0 n1 f1 l=US at XM DZ CD;generalize fa n0 f0 n1 f1 l=UT at XM DZ CD;clear NK mv;obtain⟨y0,y1,-⟩:=ZT.i.c;go_wp2_with fail;refine(CS.i _ (by omega) (by omega) ZT.s0 ZT.s1 bt la).P ?_;rintro e wa⟨v0,v1,RR,rfl,hs,ht,hm,r⟩;obtain⟨d0,e0,d1,e1,rfl,rfl,hM⟩:=wL hs ht hm;clear y0 y1 hs ht hm CS;have ZM:=(BS wa).alloc ly (N #[Y d0 (B LS) e0,Y d1 (B LT) e1] 29);have y:=r.k (ZM.P r.size);replace ZT:=ae (ZT.i.aa y);replace ZS:=ae (ZS.aa y ly);have X:Hid (SBx (wa.alloc (N #[Y d0 (B LS) e0,Y d1 (B LT) e1] 29)) (I (J wa)) (Y d0 (B LS) e0) (Y d1 (B LT) e1)):=gM wa _;have M3:=ae (hM.aa ZM ly);clear hM ZM r y;go_upto_region 12 with fail;generalize World.alloc wa _=Wa at ZT X M3 ZS ⊢;generalize (I (J wa))=ob at X ⊢;obtain⟨y0,y1,-⟩:=ZT.i.c;have x2:=ZS.p.c0;go_wp2_with fail;refine(CT.i _ (by omega) (by omega) (by omega) ZT.s0 ZT.s1 (.inr ⟨g,0,rfl,ZS.i.i⟩) bt la GS).P ?_;rintro e wb⟨v0,v1,RR,rfl,hs,ht,hm,r⟩;obtain⟨h0,k0,fd,k1,rfl,rfl,hM⟩:=wL hs ht hm;clear y0 y1 x2 hs ht hm CT ZS GS;have ZM:=(BS wb).alloc ly (N #[Y h0 (B MS) k0,Y fd (B MT) k1] 29);have y:=r.k (ZM.P r.size);replace ZT:=ae (ZT.i.aa y);replace X:=ae (X.aa y ly);replace M3:=ae (M3.aa y ly);have X4:Hid (SBx (wb.alloc (N #[Y h0 (B MS) k0,Y fd (B MT) k1] 29)) (I (J wb)) (Y h0 (B MS) k0) (Y fd (B MT) k1)):=gM wb _;have M4:=ae (hM.aa ZM ly);clear hM ZM r y;go_upto_region 13 with fail;generalize World.alloc wb _=Wb at ZT X M3 X4 M4 ⊢;generalize (I (J wb))=tb at X4 ⊢;obtain⟨y0,y1,-⟩:=ZT.i.c;go_wp2_with fail;refine(CD.i _ (by omega) (by omega) ZT.s0 ZT.s1 bt la).P ?_;rintro e wc⟨v0,v1,RR,rfl,hs,ht,hm,r⟩;obtain⟨l0,o0,l1,o1,rfl,rfl,hM⟩:=wL hs ht hm;clear y0 y1 hs ht hm CD;have ZM:=(BS wc).alloc ly (N #[Y l0 (B US) o0,Y l1 (B UT) o1] 29);have y:=r.k (ZM.P r.size);replace ZT:=ae (ZT.i.aa y);replace X:=ae (X.aa y ly);replace M3:=ae (M3.aa y ly);replace X4:=ae (X4.aa y ly);replace M4:=ae (M4.aa y ly);have X5:Hid (SBx (wc.alloc (N #[Y l0 (B US) o0,Y l1 (B UT) o1] 29)) (I (J wc)) (Y l0 (B US) o0) (Y l1 (B UT) o1)):=gM wc _;have M5:=ae (hM.aa ZM ly);clear hM ZM r y;go_upto_region 14 with fail;generalize World.alloc wc _=ZV at ZT X M3 X4 M4 X5 M5 ⊢;generalize (I (J wc))=ub at X5 ⊢;have CR:=ae (λV (o:Below (I (J ZV)) ZV V)=>Du d ZQ dc f V (by omega) (by omega) (ZT.i.aa o).dd);have hL:Hid (∀V,Below (I (J ZV)) ZV V->∀ZN,Below (I (J V)) V ZN->Tab ZN/\Tab2 ZN/\Pow ZN):=λV o ZN hU=>LY.i ZN ((ZT.i.aa o).aa hU).b;have C1:=ae (λV (o:Below (I (J ZV)) ZV V) (hC:C=0)=>mQ (S:=spL LS LT) (t:=(f (ZQ - 1)).e) (key:=l) (j_:=dc) (c0:=e0) (c1:=e1) V ZL (ZT.i.aa o).dd (by omega) R aq (M3.aa o ly).s0 (M3.aa o ly).s1 (by show (B LS)<=_;have:=PZ.n0;omega) (by show (B LT)<=_;have:=PZ.n1;omega) PZ.aq (hL.i V o) rfl (λ_=>PM.i hC));have C2:=ae (λV (o:Below (I (J ZV)) ZV V) (hC:D=0)=>mQ (S:=spL MS MT) (t:=(f (ZQ - 1)).e) (key:=l) (j_:=dc) (c0:=k0) (c1:=k1) V ZL (ZT.i.aa o).dd (by omega) R aq (M4.aa o ly).s0 (M4.aa o ly).s1 (by show (B MS)<=_;have:=RZ.n0;omega) (by show (B MT)<=_;have:=RZ.n1;omega) RZ.aq (hL.i V o) rfl (λ_=>RM.i hC));have C3:=ae (λV (o:Below (I (J ZV)) ZV V) (hC:G=0)=>mQ (S:=spL US UT) (t:=(f (ZQ - 1)).e) (key:=l) (j_:=dc) (c0:=o0) (c1:=o1) V ZL (ZT.i.aa o).dd (by omega) R aq (M5.aa o ly).s0 (M5.aa o ly).s1 (by show (B US)<=_;have:=DZ.n0;omega) (by show (B UT)<=_;have:=DZ.n1;omega) DZ.aq (hL.i V o) rfl (λ_=>XM.i hC));simp only[spL] at C1 C2 C3;generalize (f (ZQ - 1)).e=t at CR C1 C2 C3;have SQ:Hid (∀V,Below (I (J ZV)) ZV V->ZU V (T ab 0 Z)=Q (Y d ZQ dc)/\ZU V (T ob 0 Z)=Q (Y d0 (B LS) e0)/\ZU V (T ob 1 Z)=Q (Y d1 (B LT) e1)/\ZU V (T tb 0 Z)=Q (Y h0 (B MS) k0)/\ZU V (T tb 1 Z)=Q (Y fd (B MT) k1)/\ZU V (T ub 0 Z)=Q (Y l0 (B US) o0)/\ZU V (T ub 1 Z)=Q (Y l1 (B UT) o1)):=λV o=>⟨(ZT.i.aa o).ax.c0,(X.aa o ly).c0,(X.aa o ly).c1,(X4.aa o ly).c0,(X4.aa o ly).c1,(X5.aa o ly).c0,(X5.aa o ly).c1⟩
 have EW:=ae (λV (o:Below (I (J ZV)) ZV V)=>(ZT.i.aa o).b);clear PM RM XM PZ RZ DZ M3 M4 M5 X X4 X5 hL ZL R aq bt la LY ZT;by_cases hC:C=0;case' pos=>(subst hC;have ZC:=True.intro)
 case' neg=>have ur:(C != 0)=ZH:=by simpa using hC
 all_goals
  by_cases hD:D=0;case' pos=>(subst hD;have ZD:=True.intro)
  case' neg=>have n8:(D != 0)=ZH:=by simpa using hD
 all_goals
  by_cases hG:G=0;case' pos=>(subst hG;have ZG:=True.intro)
  case' neg=>have DE:(G != 0)=ZH:=by simpa using hG
 all_goals
  have T1:=True.intro;go_wp2_with fail;refine wp_region_held_drew (S:=λV=>ZU V (T ab 0 Z)=Q (Y d ZQ dc)/\ZU V (T ob 0 Z)=Q (Y d0 (B LS) e0)/\ZU V (T ob 1 Z)=Q (Y d1 (B LT) e1)/\ZU V (T tb 0 Z)=Q (Y h0 (B MS) k0)/\ZU V (T tb 1 Z)=Q (Y fd (B MT) k1)/\ZU V (T ub 0 Z)=Q (Y l0 (B US) o0)/\ZU V (T ub 1 Z)=Q (Y l1 (B UT) o1)) (by kernel_rfl) (SQ.i _ br.drew) λhS=>?_;have z:=ae hS;have ZP:Hid (Below (I (J ZV)) ZV ZV.drew):=br.drew;clear hS;generalize ZV.drew=v at ZP z ⊢
  (refine aN 0 (v:=?_) rfl rfl (by kernel_rfl) (λ_ _ _ h=>h) rfl ?_ z.i ?_;rotate_left;(focus (intro O u;obtain⟨s0,s1,ZR,M,L,P,ZO⟩:=u;go_simp;(try with_reducible rfl);done));(try simp only[p_,z_]))
  iterate 3
   first
    |guard_hyp ur
     (refine aN 0 (v:=ZF ZH) rfl rfl (by kernel_rfl) (λ_ _ _ h=>h) rfl ?_ z.i ?_;(focus (intro O u;obtain⟨s0,s1,ZR,M,L,P,ZO⟩:=u;go_simp;(try with_reducible rfl);done));(try simp only[p_,z_]))
     (refine aN 0 (v:=?_) rfl rfl (by kernel_rfl) (λ_ _ _ h=>h) rfl ?_ z.i ?_;rotate_left;(focus (intro O u;obtain⟨s0,s1,ZR,M,L,P,ZO⟩:=u;go_simp;(try with_reducible rfl);done));(try simp only[p_,z_]))
     iterate 6 (refine Br 0 rfl rfl (by kernel_rfl) (λ_ _ _ h=>h) rfl z.i ?_;(try simp only[p_,z_]))
     clear ur
    |guard_hyp ZC
     (refine aN 0 (v:=ZF ZA) rfl rfl (by kernel_rfl) (λ_ _ _ h=>h) rfl ?_ z.i ?_;(focus (intro O u;obtain⟨s0,s1,ZR,M,L,P,ZO⟩:=u;go_simp;(try with_reducible rfl);done));(try simp only[p_,z_]))
     iterate 4 (refine aN 0 (v:=?_) rfl rfl (by kernel_rfl) (λ_ _ _ h=>h) rfl ?_ z.i ?_;rotate_left;(focus (intro O u;obtain⟨s0,s1,ZR,M,L,P,ZO⟩:=u;go_simp;(try with_reducible rfl);done));(try simp only[p_,z_]))
     first
      |(guard_hyp T3;refine aN 30 (v:=?_) rfl rfl (by kernel_rfl) (λ_ _ _ h=>h) rfl ?_ z.i ?_;rotate_left;(focus (intro O u;obtain⟨s0,s1,ZR,M,L,P,ZO⟩:=u;go_simp;(try with_reducible rfl);done));(try simp only[p_,z_]))
      |(guard_hyp T2;refine aN 18 (v:=?_) rfl rfl (by kernel_rfl) (λ_ _ _ h=>h) rfl ?_ z.i ?_;rotate_left;(focus (intro O u;obtain⟨s0,s1,ZR,M,L,P,ZO⟩:=u;go_simp;(try with_reducible rfl);done));(try simp only[p_,z_]))
      |(refine aN 7 (v:=?_) rfl rfl (by kernel_rfl) (λ_ _ _ h=>h) rfl ?_ z.i ?_;rotate_left;(focus (intro O u;obtain⟨s0,s1,ZR,M,L,P,ZO⟩:=u;go_simp;(try with_reducible rfl);done));(try simp only[p_,z_]))
     first
      |(guard_hyp T3;refine aL (i:=29) rfl (by kernel_rfl) (λK hK=>?_))
      |(guard_hyp T2;refine aL (i:=17) rfl (by kernel_rfl) (λK hK=>?_))
      |refine aL (i:=6) rfl (by kernel_rfl) (λK hK=>?_)
     (go_simp;go_at_call 16;refine(CR.i _ ZP).P ?_;rintro e v2⟨rfl,r⟩;replace ZP:=ae (ZP.i.k (r.P ZP.size));clear r z;have z:=ae (SQ.i _ ZP);refine hK _ _ z.i ?_;clear hK K;obtain⟨v,rfl⟩:∃x,x=v2:=⟨_,rfl⟩;(try simp only[p_,z_]))
     first
      |(guard_hyp T3;refine aL (i:=31) rfl (by kernel_rfl) (λK hK=>?_))
      |(guard_hyp T2;refine aL (i:=19) rfl (by kernel_rfl) (λK hK=>?_))
      |refine aL (i:=8) rfl (by kernel_rfl) (λK hK=>?_)
     (go_simp;go_at_call 15;refine(C1.i _ ZP (by simp)).P ?_;rintro e v2⟨rfl,r⟩;replace ZP:=ae (ZP.i.k (r.P ZP.size));clear r z;have z:=ae (SQ.i _ ZP);refine hK _ _ z.i ?_;clear hK K;obtain⟨v,rfl⟩:∃x,x=v2:=⟨_,rfl⟩;(try simp only[p_,z_]))
     clear ZC
   (refine aN 0 (v:=ZF ZH) rfl rfl (by kernel_rfl) (λ_ _ _ h=>h) rfl ?_ z.i ?_;(focus (intro O u;obtain⟨s0,s1,ZR,M,L,P,ZO⟩:=u;go_simp;(try with_reducible rfl);done));(try simp only[p_,z_]))
   first
    |(guard_hyp T3;refine aN 0 (v:=ZF ZH) rfl rfl (by kernel_rfl) (λ_ _ _ h=>h) rfl ?_ z.i ?_;(focus (intro O u;obtain⟨s0,s1,ZR,M,L,P,ZO⟩:=u;go_simp;(try with_reducible rfl);done));(try simp only[p_,z_]);refine aN 0 (v:=?_) rfl rfl (by kernel_rfl) (λ_ _ _ h=>h) rfl ?_ z.i ?_;rotate_left;(focus (intro O u;obtain⟨s0,s1,ZR,M,L,P,ZO⟩:=u;go_simp;(try with_reducible rfl);done));(try simp only[p_,z_]))
    |(guard_hyp T2;refine aN 0 (v:=ZF ZH) rfl rfl (by kernel_rfl) (λ_ _ _ h=>h) rfl ?_ z.i ?_;(focus (intro O u;obtain⟨s0,s1,ZR,M,L,P,ZO⟩:=u;go_simp;(try with_reducible rfl);done));(try simp only[p_,z_]);iterate 2 (refine aN 0 (v:=?_) rfl rfl (by kernel_rfl) (λ_ _ _ h=>h) rfl ?_ z.i ?_;rotate_left;(focus (intro O u;obtain⟨s0,s1,ZR,M,L,P,ZO⟩:=u;go_simp;(try with_reducible rfl);done));(try simp only[p_,z_])))
    |(iterate 2 (refine aN 0 (v:=?_) rfl rfl (by kernel_rfl) (λ_ _ _ h=>h) rfl ?_ z.i ?_;rotate_left;(focus (intro O u;obtain⟨s0,s1,ZR,M,L,P,ZO⟩:=u;go_simp;(try with_reducible rfl);done));(try simp only[p_,z_])))
   (try (guard_hyp T2;have T3:=True.intro))
   have T2:=True.intro
   (try (have ur:=n8;clear n8))
   (try (have ZC:=ZD;clear ZD))
   (try (have n8:=DE;clear DE))
   (try (have ZD:=ZG;clear ZG))
   clear C1
   (try (have C1:=C2;clear C2))
   (try (have C2:=C3;clear C3))
  refine wpAnyH_done (by kernel_rfl) ?_ _;have B9:=ae (EW.i _ ZP);clear z SQ EW CR;go_wp2;go_ret;exact⟨rfl,B9⟩
