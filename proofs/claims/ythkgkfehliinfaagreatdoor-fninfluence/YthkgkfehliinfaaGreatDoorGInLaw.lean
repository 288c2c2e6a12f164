import Derived.Test.YthkgkfehliinfaaGreatDoorDI
import Derived.Test.YthkgkfehliinfaaGreatDoorDD
import Derived.Test.YthkgkfehliinfaaGreatDoorDH
set_option linter.all false
set_option maxRecDepth 100000
set_option maxHeartbeats 16000000
open Go renaming Addr.mk->Q,Value.slice->Y,Value.string->U,Value.bool->ZF,Value.agg->ZJ,Obj.cells->N,World->E,Ending.returned->ZI,World.heap->J,World.cell?->ZU
open Option renaming none->Z,some->T
open Bool renaming false->ZA,true->ZH
open Array renaming size->I
open List renaming length->B
namespace Go.Proofs.YthkgkfehliinfaaGreatDoor.Vp
open Tryz RowKit Ca
variable {S:x_}{n j_:Nat}{f:Nat->au}{a a0 a1:O_}{t:F_}
def qY{c0 c1:Nat}(w:E)(hn:(n:Int)<=1048576)(hn0:S.n0<=1048576)(hn1:S.n1<=1048576)(t:SlDeed w a n f)(p:(n:Int)<=j_)(g:∀i,i<n->cX (f i))(m:Qx w a0 S.n0 S.f0)(l:Qq w a1 S.n1 S.f1)(j:∀i,i<S.n1->aP (S.f1 i))(o:Tab w)(h:Tab2 w)(s:Pow w):Calls Tryz.prog 6 #[ZJ #[Y a n j_],ZJ #[Y a0 S.n0 c0,Y a1 S.n1 c1]] w λe x=>e=ZI (.int .i64 (fj S.n0 S.f0 S.n1 S.f1 f n).1)/\Below (I (J w)) w x:=by have b:=ae (((BS w).alloc ly (N #[Y a n j_] 25)).alloc (by simp) (N #[Y a0 S.n0 c0,Y a1 S.n1 c1] 29));have C:=ae (t6 a n j_ f a0 S.n0 c0 S.f0 a1 S.n1 c1 S.f1 _ hn (by omega) (by omega) (t.aa b ly) p g (m.aa b ly) (l.aa b ly) j (o.aa b o.1) (h.aa b h.1) (s.aa b ly));clear t m l g j o h s;generalize fj S.n0 S.f0 S.n1 S.f1 f n=q at C ⊢;go_enter func6,ntmps6;go_wp2_with fail;refine C.P ?_;rintro e w1⟨rfl,r⟩;have u:=ae (b.k (r.P b.size));clear r;go_wp2;go_ret;exact⟨rfl,u⟩
def mQ{c0 c1:Nat}{key:F_}(w:E)(hA:bc f n=ZH)(P:SlDeed w a n f)(aq:(n:Int)<=j_)(o:∀i,i<n->cX (f i))(ZM:∀i,i<n->fo (f i))(ZR:Qx w a0 S.n0 S.f0)(ZS:Qq w a1 S.n1 S.f1)(hn0:S.n0<=1048576)(hn1:S.n1<=1048576)(H:∀i,i<S.n1->aP (S.f1 i))(hL:∀V,Below (I (J w)) w V->Tab V/\Tab2 V/\Pow V)(ht:(f (n - 1)).e=t)(hk:key.toList ∉ ip f n->(fj S.n0 S.f0 S.n1 S.f1 f n).1=0):Calls Tryz.prog 16 #[ZJ #[Y a n j_],ZJ #[Y a0 S.n0 c0,Y a1 S.n1 c1],U t,U key] w λe w'=>e=ZI (ZF ZH)/\Below (I (J w)) w w':=by
 have hn:=er hA;have ZL:(n:Int)<=1048576:=by omega
 have SI:Hid _:=Dw (S:=S) hA;rw[ht] at SI;obtain⟨ZO,s⟩:∃W:E,(w.alloc (N #[Y a n j_] 25)).alloc (N #[Y a0 S.n0 c0,Y a1 S.n1 c1] 29)=W:=⟨_,rfl⟩
 obtain⟨p,-,KS,-⟩:=nb2 s;replace KS:=KS.i;replace p:=p.i;have x:=ae s;clear s;have CM:=ae (wA (S:=S) (a0:=a0) (a1:=a1) (c0:=c0) (c1:=c1) _ t (ZR.aa p ly) (ZS.aa p ly) hn0 hn1 H (hL _ p).1 (hL _ p).2.1 (hL _ p).2.2);have CA:=ae (λV (l:Below (I (J w)) w V)=>qY (S:=S) (a:=a) (n:=n) (j_:=j_) (c0:=c0) (c1:=c1) (f:=f) V ZL hn0 hn1 (P.aa l ly) aq o (ZR.aa l ly) (ZS.aa l ly) H (hL V l).1 (hL V l).2.1 (hL V l).2.2);have CN:=ae (λV (l:Below (I (J w)) w V)=>mW a n j_ f V ZL (P.aa l ly) o ZM);have CW:=ae (λV (l:Below (I (J w)) w V) a' m c' g hg=>wO a n j_ f a' m c' g V (by omega) (P.aa l ly) hg o);have u:=uW f n;have KA:ZO.heap[I (J w)]?=T (N #[Y a n j_] 25 (0,0)):=by rw[<-x.i];rw[UK _ _ (by simp)];exact gM w _
 have A1:=ae p;have HK:=ae hk;have K1:=ae KA;have K2:=ae KS;clear hA P o ZM ZR ZS H hL ht hk p KA KS;generalize ip f n=NL at CN HK u;generalize (fj S.n0 S.f0 S.n1 S.f1 f n).1=q at CA HK SI;go_enter func16,ntmps16;go_upto_region 1 with fail;rw[x.i];clear x;have l0:=aj K1.i;have l1:=aj K2.i;have hw:=A1.size;have D:Hid (∀V,Below (I (J ZO)) ZO V->ZU V (Q (I (J w)) 0 Z)=T (Y a n j_)/\ZU V (Q (I (J w)+1) 0 Z)=T (Y a0 S.n0 c0)/\ZU V (Q (I (J w)+1) 1 Z)=T (Y a1 S.n1 c1)):=λV l=>by have p0:=(l.p _ l0).k K1.i;have p1:=(l.p _ l1).k K2.i;refine⟨?_,?_,?_⟩<;>simp[World.cell?,p0,p1]
 obtain⟨z0,z1,z2⟩:=D.i ZO br;go_wp2_with fail;refine CM.i.P ?_;rintro e X⟨d,dc,R,rv,rfl,hD,y,⟨ra,rk,rfl,-⟩,j⟩;have ZV:=hD.bd;rw[y] at ZV;have HN:=ae (show (B R)=(bE S t).1.length by have:=xT List.length y;simpa[bk] using this);clear z0 z1 z2 CM hD y;generalize (bE S t).2=rs;obtain⟨O,r⟩:∃W:E,(X.alloc (N #[Y d (B R) dc] 25)).alloc (N #[.int .i64 rs.M,U rs.H,Y ra (B rs.R) rk] 60)=W:=⟨_,rfl⟩
 obtain⟨A,-,-,-⟩:=nb2 r;replace A:=A.i;have z:=ae r;clear r;have kA:O.heap[I (J X)]?=T (N #[Y d (B R) dc] 25 (0,0)):=by rw[<-z.i];rw[UK _ _ (by simp)];exact gM X _
 have C:=ae (j.k (A.P j.size));have D2:=ae (ZV.aa A ly);have K:=ae kA;clear A kA j ZV;go_upto_region 2 with fail;rw[z.i];clear z;generalize (I (J X))=ab at K ⊢;generalize (B R)=ZQ at D2 K HN ⊢;have k3:=K.i;have l3:=aj k3;have x0:ZU O (Q ab 0 Z)=T (Y d ZQ dc):=by simp[World.cell?,k3]
 clear k3 K;obtain⟨z0,-,-⟩:=D.i O C;have ZP:=ae (A1.k (C.P hw));go_wp2_with fail;refine(CW.i O ZP _ _ _ _ D2).P ?_;rintro e w3⟨b,rfl,hb,j⟩;have HQ:Hid (b=ZH ↔ q=0):=by rw[hb,HN.i];exact SI.i
 have M:=ae (C.k (j.P C.size));have L:=ae (ZP.k (j.P ZP.size));clear hb j x0 z0 l3 CW D2 HN SI C ZP;obtain⟨z0,z1,z2⟩:=D.i w3 M;go_wp2_with fail;refine(CA.i w3 L).P ?_;rintro e w4⟨rfl,j⟩;have B4:=ae (M.k (j.P M.size));have ZN:=ae (L.k (j.P L.size));clear j z0 z1 z2 CA M L;obtain⟨z0,-,-⟩:=D.i w4 B4;go_wp2_with fail;refine(CN.i w4 ZN).P ?_;rintro e w5⟨nb,no,m,nc,rfl,rfl,ZT,j⟩;have E5:=ae (ZN.k (j.P ZN.size));clear j z0 CN B4 ZN D;go_wp2_with fail;refine(rY (T (Q nb no Z)) (B NL) nc (nmF NL) key w5 u (.inr ⟨nb,no,rfl,ZT⟩)).P ?_;rintro e w6⟨b2,rfl,G,j⟩;have E6:=ae (E5.k (j.P E5.size));rw[Is] at G;have H2:=ae G;clear G j ZT E5 u;cases b2 with
 |false =>
  obtain rfl:q=0:=HK.i λh=>by have:=H2.i.2 h;cases this
  obtain rfl:b=ZH:=HQ.i.2 rfl;go_wp2;go_ret;exact⟨rfl,E6⟩
 |true =>
  cases b with
  |true =>obtain rfl:q=0:=HQ.i.1 rfl;go_wp2;go_ret;exact⟨rfl,E6⟩
  |false =>
   have h0:(q == 0)=ZA:=by simpa using λh=>by have:=HQ.i.2 h;cases this
   go_wp2;go_ret;exact⟨rfl,E6⟩
def tw{n0:Nat}{f0:Nat->Source}{n1:Nat}{f1:Nat->Target}(h:ig n0 f0 n1 f1 t=0):Besd ⟨n0,f0,n1,f1⟩ (spL (eB n0 f0 n1 f1 t) (fa n0 f0 n1 f1 t)) t/\aR (eB n0 f0 n1 f1 t).length (aV (eB n0 f0 n1 f1 t)) (fa n0 f0 n1 f1 t).length (aW (fa n0 f0 n1 f1 t))=0:=by
 have f:aR n0 f0 n1 f1=0:=by
  have b:=h;unfold ig at b;split at b;{cases b};{omega}
 rw[eB,fa,eT h,eT h];exact⟨sd (λ_ _=>Iff.rfl) (λ_ _=>Iff.rfl),jv (iY t f)⟩
def Gw (h:(fj S.n0 S.f0 S.n1 S.f1 f n).1=0):bc f n=ZH/\∀p,p<n->Borne S f p:=by
 have b:bc f n=ZH:=by
  cases e:bc f n with
  |true=>rfl
  |false =>unfold fj at h;rw[e,eI (by simp)] at h;cases h
 exact⟨b,((r9 (S:=S) b).1 h).2⟩
def Gx (a:O_)(n j_:Nat)(b:O_)(m f:Nat)(w:E)(h:1048576<(n:Int)\/1048576<(m:Int)):Calls Tryz.prog 3 #[Y a n j_,Y b m f] w λe g=>e=ZI (ZF ZH)/\Below (I (J w)) w g:=by
 by_cases h1:1048576<(n:Int)
 case' neg=>have h2:1048576<(m:Int):=h.resolve_left h1
 all_goals
  go_enter Y9,ntmps3;go_wp2;go_ret;exact⟨rfl,a8 _ _⟩
def uc (a:O_)(n j_:Nat)(b:O_)(m aq:Nat)(w:E)(hc:n<=j_)(n8:m<=aq)(hS:ByteSl w a n)(th:ByteSl w b m)(hT:Tab w)(ur:Tab2 w)(hP:Pow w):Calls Tryz.prog 3 #[Y a n j_,Y b m aq] w λe w'=>e=ZI (ZF ZH)/\Below (I (J w)) w w':=by
 by_cases ex:1048576<(n:Int)\/1048576<(m:Int)
 {exact Gx a n j_ b m aq w ex};have h1:¬ 1048576<(n:Int):=λh=>ex (.inl h);have h2:¬ 1048576<(m:Int):=λh=>ex (.inr h);have LY:=ae (λV (o:Below (I (J w)) w V)=>(⟨hT.aa o hT.1,ur.aa o ur.1,hP.aa o ly⟩:Tab V/\Tab2 V/\Pow V));have DM:=ae (ua a n j_ w (by omega) hc hS);have DS:=ae (λV (o:Below (I (J w)) w V)=>od b m aq V (by omega) n8 (th.aa o ly));have DT:=ae (λV (o:Below (I (J w)) w V)=>vR b m aq V (by omega) n8 (th.aa o ly));clear hT ur hP hS th hc n8 ex;go_enter Y9,ntmps3;go_wp2_with fail;refine DM.i.P ?_;rintro e w1⟨a0,n0,c0,f0,a1,n1,c1,f1,d,ZQ,dc,f,rfl,hH,hA,-,Bk⟩;clear DM h1 h2;have hn0:=hH.hn0;have hn1:=hH.hn1;have hN:=hA.hn;have hcap:=hA.j_;have bt:=ae (show ∀i,i<n1->aP (f1 i) from λi hi=>by have:=(hH.aq i hi).1;unfold aP;omega);have fd:=ae (show ∀i,i<n1->∀j,j<(f1 i).h->((f1 i).u j).s.size<=maxLen from λi hi j hj=>by have:=(hH.aq i hi).2 j hj;unfold maxLen;omega);have R:=ae (λi hi=>(hA.aq i hi).fits);have ZM:=ae (λi hi=>(hA.aq i hi).sized);have ZT:=ae (Jh (c0:=c0) (c1:=c1) hH hA Bk);clear hH hA Bk;go_upto_region 4 with fail;generalize World.alloc (World.alloc w1 _) _=W1 at ZT ⊢;generalize (I (J w1))+1=sb at ZT ⊢;generalize (I (J w1))=ab at ZT ⊢;have PF:Hid _:=Gw (S:=⟨n0,f0,n1,f1⟩) (f:=f) (n:=ZQ);have CA:=ae (λV (o:Lw w ab sb d ZQ dc f a0 n0 c0 f0 a1 n1 c1 f1 V)=>qY (S:=⟨n0,f0,n1,f1⟩) (a:=d) (n:=ZQ) (j_:=dc) (c0:=c0) (c1:=c1) (f:=f) V (by omega) (by show n0<=_;omega) (by show n1<=_;omega) o.dd (by omega) R o.s0 o.s1 bt (LY.i V o.b).1 (LY.i V o.b).2.1 (LY.i V o.b).2.2);have CG:=ae (λV (o:Lw w ab sb d ZQ dc f a0 n0 c0 f0 a1 n1 c1 f1 V)=>t8 d ZQ dc f a0 n0 c0 f0 a1 n1 c1 f1 V (by omega) (by omega) (by omega) o.dd R ZM o.s0 o.s1 bt fd);simp only at PF CA;generalize fj n0 f0 n1 f1 f ZQ=q at PF CA CG;obtain⟨q1,q2⟩:=q;obtain⟨y0,y1,x0⟩:=ZT.i.c;go_wp2_with fail;refine(CA.i _ ZT).P ?_;rintro e w2⟨rfl,r⟩;replace ZT:=ae (ZT.i.aa r);clear r x0 y0 y1 CA;by_cases hq:q1=0;case neg =>
  have hc:(q1 == 0)=ZA:=by simpa using hq
  obtain⟨y0,y1,x0⟩:=ZT.i.c;go_wp2_with fail;refine(CG.i _ ZT).P ?_;rintro e w3⟨rfl,r⟩;have B9:=ae (ZT.i.aa r).b;clear r x0 y0 y1 CG;go_wp2;go_ret;exact⟨rfl,B9⟩
 obtain⟨ld,n9⟩:=PF.i hq;subst hq;have hpos:=(er ld).1;have W:=ae ld;have mv:=ae n9;clear ld n9 PF CG;go_wp2_with fail;refine(DT.i _ ZT.b).P ?_;rintro e w3⟨p0,q0,r0,p1,q1,r1,l,g,ZV,pc,H,rfl,hI,hpm,Hx,r⟩;have A9:=((BS w3).alloc ly (N #[Y p0 q0 r0,Y p1 q1 r1] 29)).alloc (by simp) (N #[Y (T (Q g 0 Z)) ZV pc] 37);replace ZT:=ae (ZT.i.aa (r.k (A9.P r.size)));have DQ:=ae (show ∀j,j<ZV->(H j).s.size<=maxLen from λj hj=>by have:=Hx j hj;unfold maxLen;omega);have ZS:Hid (PP ((w3.alloc (N #[Y p0 q0 r0,Y p1 q1 r1] 29)).alloc (N #[Y (T (Q g 0 Z)) ZV pc] 37)) (I (J w3)+1) g ZV pc H):=⟨SL w3 _ _,hI.aa A9 ly⟩
 clear A9 r DT hI Hx;go_upto_region 8 with fail;generalize World.alloc (World.alloc w3 _) _=W3 at ZT ZS ⊢;generalize (I (J w3))+1=pb at ZS ⊢;go_wp2_with fail;refine(DS.i _ ZT.b).P ?_;rintro e w4⟨p0,q0,r0,-,p1,q1,r1,-,key2,tx,rfl,-,r⟩;have A8:=(BS w4).alloc ly (N #[Y p0 q0 r0,Y p1 q1 r1] 29);have y:=r.k (A8.P r.size);replace ZT:=ae (ZT.i.aa y);replace ZS:=ae (ZS.aa y ly);clear A8 y r DS;go_upto_region 9 with fail;generalize World.alloc w4 _=W4 at ZT ZS ⊢;obtain⟨NL,ph⟩:∃NL,NL=ip f ZQ:=⟨_,rfl⟩
 have At:B NL<=1048576:=by rw[ph];exact uW f ZQ
 have EN:=ae ph;clear ph;have x0:=ZT.ax.c0;go_wp2_with fail;refine(tT d ZQ dc f _ (by omega) ZT.dd (by omega) R ZM (LY.i _ ZT.b).1).P ?_;rintro e w5⟨v,rfl,ho,r⟩;rw[<-EN.i] at ho;obtain⟨na,nc,rfl⟩:=aJ ho;have N5:=ae (Ir ho);replace ZT:=ae (ZT.i.aa r);replace ZS:=ae (ZS.aa r ly);clear ho r x0;go_wp2_with fail;refine(rY na (B NL) nc (nmF NL) l w5 At N5).P ?_;rintro e w6⟨bi,rfl,Fk,r⟩;replace ZT:=ae (ZT.i.aa r);replace ZS:=ae (ZS.aa r ly);have sm:=ae Fk;clear r Fk N5;cases bi with
 |true =>have x0:=ZT.ax.c0;go_wp2_with fail;refine(mW d ZQ dc f _ (by omega) ZT.dd R ZM).P ?_;rintro e w7⟨b7,o7,m7,c7,rfl,Fd,hr,r⟩;rw[<-EN.i] at Fd hr;subst Fd;have R7:Hid (SlStr w7 (T (Q b7 o7 Z)) (B NL) (nmF NL)):=.inr ⟨b7,o7,rfl,hr⟩;replace ZT:=ae (ZT.i.aa r);clear hr r x0;go_wp2_with fail;refine(rY (T (Q b7 o7 Z)) (B NL) c7 (nmF NL) l w7 At R7).P ?_;rintro e w8⟨b8,rfl,DE,r⟩;obtain rfl:b8=ZH:=DE.2 (sm.i.1 (by simp));have B9:=ae (ZT.i.aa r).b;clear DE r;go_wp2;go_ret;exact⟨rfl,B9⟩
 |false =>
 have Fm:l.toList ∉ ip f ZQ:=by rw[<-EN.i];intro hm;obtain⟨i,hi,e⟩:=QL hm;have:=sm.i.2 ⟨i,hi,(jQ hi).k e⟩;cases this
 have NK:=ae Fm;clear Fm sm EN At;have PZ:=ae (wI (n0:=n0) (f0:=f0) (n1:=n1) (f1:=f1) (t:=l) (tx:=tx));have RZ:=ae (wJ (n0:=n0) (f0:=f0) (n1:=n1) (f1:=f1) (t:=l) (m:=ZV) (fp:=H));have DZ:=ae (wK (n0:=n0) (f0:=f0) (n1:=n1) (f1:=f1) (t:=l));have PM:Hid (iC n0 f0 n1 f1 l tx=0->(fj (spL (eZ n0 f0 n1 f1 l tx) (fC n0 f0 n1 f1 l tx)).n0 (spL (eZ n0 f0 n1 f1 l tx) (fC n0 f0 n1 f1 l tx)).f0 (spL (eZ n0 f0 n1 f1 l tx) (fC n0 f0 n1 f1 l tx)).n1 (spL (eZ n0 f0 n1 f1 l tx) (fC n0 f0 n1 f1 l tx)).f1 f ZQ).1=0):=λh=>mO (Dx h) (jv (FA h).1) W mv NK;have RM:Hid (fW n0 f0 n1 f1 l (valid H ZV)=0->(fj (spL (d9 n0 f0 n1 f1 l ZV H) (eE n0 f0 n1 f1 l ZV H)).n0 (spL (d9 n0 f0 n1 f1 l ZV H) (eE n0 f0 n1 f1 l ZV H)).f0 (spL (d9 n0 f0 n1 f1 l ZV H) (eE n0 f0 n1 f1 l ZV H)).n1 (spL (d9 n0 f0 n1 f1 l ZV H) (eE n0 f0 n1 f1 l ZV H)).f1 f ZQ).1=0):=λh=>mO (Dy h) (jv (Dv h).2.1) W mv NK;have XM:Hid (ig n0 f0 n1 f1 l=0->(fj (spL (eB n0 f0 n1 f1 l) (fa n0 f0 n1 f1 l)).n0 (spL (eB n0 f0 n1 f1 l) (fa n0 f0 n1 f1 l)).f0 (spL (eB n0 f0 n1 f1 l) (fa n0 f0 n1 f1 l)).n1 (spL (eB n0 f0 n1 f1 l) (fa n0 f0 n1 f1 l)).f1 f ZQ).1=0):=λh=>mO (tw h).1 (tw h).2 W mv NK;have CS:=ae (nE a0 n0 c0 f0 a1 n1 c1 f1 l tx);have CT:=ae (nG a0 n0 c0 f0 a1 n1 c1 f1 l (T (Q g 0 Z)) ZV pc H);have CD:=ae (nF a0 n0 c0 f0 a1 n1 c1 f1 l);generalize iC n0 f0 n1 f1 l tx=C at PM CS;generalize eZ n0 f0 n1 f1 l tx=LS at PM PZ CS;generalize fC n0 f0 n1 f1 l tx=LT at PM PZ CS;generalize fW n0 f0 n1 f1 l (valid H ZV)=D at RM CT;generalize d9 n0 f0 n1 f1 l ZV H=MS at RM RZ CT;generalize eE n0 f0 n1 f1 l ZV H=MT at RM RZ CT;generalize ig n0 f0 n1 f1 l=G at XM CD;generalize eB n0 f0 n1 f1 l=US at XM DZ CD;generalize fa n0 f0 n1 f1 l=UT at XM DZ CD;clear NK mv;obtain⟨y0,y1,-⟩:=ZT.i.c;go_wp2_with fail;refine(CS.i _ (by omega) (by omega) ZT.s0 ZT.s1 bt fd).P ?_;rintro e wa⟨v0,v1,RR,rfl,hs,ht,hm,r⟩;obtain⟨d0,e0,d1,e1,rfl,rfl,hM⟩:=wL hs ht hm;clear y0 y1 hs ht hm CS;have ZL:=(BS wa).alloc ly (N #[Y d0 (B LS) e0,Y d1 (B LT) e1] 29);have y:=r.k (ZL.P r.size);replace ZT:=ae (ZT.i.aa y);replace ZS:=ae (ZS.aa y ly);have X:Hid (SBx (wa.alloc (N #[Y d0 (B LS) e0,Y d1 (B LT) e1] 29)) (I (J wa)) (Y d0 (B LS) e0) (Y d1 (B LT) e1)):=gM wa _;have M3:=ae (hM.aa ZL ly);clear hM ZL r y;go_upto_region 12 with fail;generalize World.alloc wa _=Wa at ZT X M3 ZS ⊢;generalize (I (J wa))=ob at X ⊢;obtain⟨y0,y1,-⟩:=ZT.i.c;have x2:=ZS.p.c0;go_wp2_with fail;refine(CT.i _ (by omega) (by omega) (by omega) ZT.s0 ZT.s1 (.inr ⟨g,0,rfl,ZS.i⟩) bt fd DQ).P ?_;rintro e wb⟨v0,v1,RR,rfl,hs,ht,hm,r⟩;obtain⟨h0,k0,la,k1,rfl,rfl,hM⟩:=wL hs ht hm;clear y0 y1 x2 hs ht hm CT ZS DQ;have ZL:=(BS wb).alloc ly (N #[Y h0 (B MS) k0,Y la (B MT) k1] 29);have y:=r.k (ZL.P r.size);replace ZT:=ae (ZT.i.aa y);replace X:=ae (X.aa y ly);replace M3:=ae (M3.aa y ly);have X4:Hid (SBx (wb.alloc (N #[Y h0 (B MS) k0,Y la (B MT) k1] 29)) (I (J wb)) (Y h0 (B MS) k0) (Y la (B MT) k1)):=gM wb _;have M4:=ae (hM.aa ZL ly);clear hM ZL r y;go_upto_region 13 with fail;generalize World.alloc wb _=Wb at ZT X M3 X4 M4 ⊢;generalize (I (J wb))=tb at X4 ⊢;obtain⟨y0,y1,-⟩:=ZT.i.c;go_wp2_with fail;refine(CD.i _ (by omega) (by omega) ZT.s0 ZT.s1 bt fd).P ?_;rintro e wc⟨v0,v1,RR,rfl,hs,ht,hm,r⟩;obtain⟨l0,o0,l1,o1,rfl,rfl,hM⟩:=wL hs ht hm;clear y0 y1 hs ht hm CD;have ZL:=(BS wc).alloc ly (N #[Y l0 (B US) o0,Y l1 (B UT) o1] 29);have y:=r.k (ZL.P r.size);replace ZT:=ae (ZT.i.aa y);replace X:=ae (X.aa y ly);replace M3:=ae (M3.aa y ly);replace X4:=ae (X4.aa y ly);replace M4:=ae (M4.aa y ly);have X5:Hid (SBx (wc.alloc (N #[Y l0 (B US) o0,Y l1 (B UT) o1] 29)) (I (J wc)) (Y l0 (B US) o0) (Y l1 (B UT) o1)):=gM wc _;have M5:=ae (hM.aa ZL ly);clear hM ZL r y;go_upto_region 14 with fail;generalize World.alloc wc _=A at ZT X M3 X4 M4 X5 M5 ⊢;generalize (I (J wc))=ub at X5 ⊢;have CR:=ae (λV (o:Below (I (J A)) A V)=>Du d ZQ dc f V (by omega) (by omega) (ZT.i.aa o).dd);have hL:Hid (∀V,Below (I (J A)) A V->∀ZN,Below (I (J V)) V ZN->Tab ZN/\Tab2 ZN/\Pow ZN):=λV o ZN hU=>LY.i ZN ((ZT.i.aa o).aa hU).b;have C1:=ae (λV (o:Below (I (J A)) A V) (hC:C=0)=>mQ (S:=spL LS LT) (t:=(f (ZQ - 1)).e) (key:=l) (j_:=dc) (c0:=e0) (c1:=e1) V W (ZT.i.aa o).dd (by omega) R ZM (M3.aa o ly).s0 (M3.aa o ly).s1 (by show (B LS)<=_;have:=PZ.n0;omega) (by show (B LT)<=_;have:=PZ.n1;omega) PZ.aq (hL.i V o) rfl (λ_=>PM.i hC));have C2:=ae (λV (o:Below (I (J A)) A V) (hC:D=0)=>mQ (S:=spL MS MT) (t:=(f (ZQ - 1)).e) (key:=l) (j_:=dc) (c0:=k0) (c1:=k1) V W (ZT.i.aa o).dd (by omega) R ZM (M4.aa o ly).s0 (M4.aa o ly).s1 (by show (B MS)<=_;have:=RZ.n0;omega) (by show (B MT)<=_;have:=RZ.n1;omega) RZ.aq (hL.i V o) rfl (λ_=>RM.i hC));have C3:=ae (λV (o:Below (I (J A)) A V) (hC:G=0)=>mQ (S:=spL US UT) (t:=(f (ZQ - 1)).e) (key:=l) (j_:=dc) (c0:=o0) (c1:=o1) V W (ZT.i.aa o).dd (by omega) R ZM (M5.aa o ly).s0 (M5.aa o ly).s1 (by show (B US)<=_;have:=DZ.n0;omega) (by show (B UT)<=_;have:=DZ.n1;omega) DZ.aq (hL.i V o) rfl (λ_=>XM.i hC));simp only[spL] at C1 C2 C3;generalize (f (ZQ - 1)).e=t at CR C1 C2 C3;have SQ:Hid (∀V,Below (I (J A)) A V->ZU V (Q ab 0 Z)=T (Y d ZQ dc)/\ZU V (Q ob 0 Z)=T (Y d0 (B LS) e0)/\ZU V (Q ob 1 Z)=T (Y d1 (B LT) e1)/\ZU V (Q tb 0 Z)=T (Y h0 (B MS) k0)/\ZU V (Q tb 1 Z)=T (Y la (B MT) k1)/\ZU V (Q ub 0 Z)=T (Y l0 (B US) o0)/\ZU V (Q ub 1 Z)=T (Y l1 (B UT) o1)):=λV o=>⟨(ZT.i.aa o).ax.c0,(X.aa o ly).c0,(X.aa o ly).c1,(X4.aa o ly).c0,(X4.aa o ly).c1,(X5.aa o ly).c0,(X5.aa o ly).c1⟩
 have EW:=ae (λV (o:Below (I (J A)) A V)=>(ZT.i.aa o).b);clear PM RM XM PZ RZ DZ M3 M4 M5 X X4 X5 hL W R ZM bt fd LY ZT;by_cases hC:C=0;case' pos=>(subst hC;have ZC:=True.intro)
 case' neg=>have qr:(C != 0)=ZH:=by simpa using hC
 all_goals
  by_cases hD:D=0;case' pos=>(subst hD;have ZD:=True.intro)
  case' neg=>have ro:(D != 0)=ZH:=by simpa using hD
 all_goals
  by_cases hG:G=0;case' pos=>(subst hG;have ZG:=True.intro)
  case' neg=>have GS:(G != 0)=ZH:=by simpa using hG
 all_goals
  have T1:=True.intro;go_wp2_with fail;refine wp_region_held_drew (S:=λV=>ZU V (Q ab 0 Z)=T (Y d ZQ dc)/\ZU V (Q ob 0 Z)=T (Y d0 (B LS) e0)/\ZU V (Q ob 1 Z)=T (Y d1 (B LT) e1)/\ZU V (Q tb 0 Z)=T (Y h0 (B MS) k0)/\ZU V (Q tb 1 Z)=T (Y la (B MT) k1)/\ZU V (Q ub 0 Z)=T (Y l0 (B US) o0)/\ZU V (Q ub 1 Z)=T (Y l1 (B UT) o1)) (by kernel_rfl) (SQ.i _ br.drew) λhS=>?_;have z:=ae hS;have ZO:Hid (Below (I (J A)) A A.drew):=br.drew;clear hS;generalize A.drew=v at ZO z ⊢
  (refine aN 0 (v:=?_) rfl rfl (by kernel_rfl) (λ_ _ _ h=>h) rfl ?_ z.i ?_;rotate_left;(focus (intro M u;obtain⟨s0,s1,O,ZP,ZR,P,L⟩:=u;go_simp;(try with_reducible rfl);done));(try simp only[Act.put,yh]))
  iterate 3
   first
    |guard_hyp qr
     (refine aN 0 (v:=ZF ZH) rfl rfl (by kernel_rfl) (λ_ _ _ h=>h) rfl ?_ z.i ?_;(focus (intro M u;obtain⟨s0,s1,O,ZP,ZR,P,L⟩:=u;go_simp;(try with_reducible rfl);done));(try simp only[Act.put,yh]))
     (refine aN 0 (v:=?_) rfl rfl (by kernel_rfl) (λ_ _ _ h=>h) rfl ?_ z.i ?_;rotate_left;(focus (intro M u;obtain⟨s0,s1,O,ZP,ZR,P,L⟩:=u;go_simp;(try with_reducible rfl);done));(try simp only[Act.put,yh]))
     iterate 6 (refine Bm 0 rfl rfl (by kernel_rfl) (λ_ _ _ h=>h) rfl z.i ?_;(try simp only[Act.put,yh]))
     clear qr
    |guard_hyp ZC
     (refine aN 0 (v:=ZF ZA) rfl rfl (by kernel_rfl) (λ_ _ _ h=>h) rfl ?_ z.i ?_;(focus (intro M u;obtain⟨s0,s1,O,ZP,ZR,P,L⟩:=u;go_simp;(try with_reducible rfl);done));(try simp only[Act.put,yh]))
     iterate 4 (refine aN 0 (v:=?_) rfl rfl (by kernel_rfl) (λ_ _ _ h=>h) rfl ?_ z.i ?_;rotate_left;(focus (intro M u;obtain⟨s0,s1,O,ZP,ZR,P,L⟩:=u;go_simp;(try with_reducible rfl);done));(try simp only[Act.put,yh]))
     first
      |(guard_hyp T3;refine aN 30 (v:=?_) rfl rfl (by kernel_rfl) (λ_ _ _ h=>h) rfl ?_ z.i ?_;rotate_left;(focus (intro M u;obtain⟨s0,s1,O,ZP,ZR,P,L⟩:=u;go_simp;(try with_reducible rfl);done));(try simp only[Act.put,yh]))
      |(guard_hyp T2;refine aN 18 (v:=?_) rfl rfl (by kernel_rfl) (λ_ _ _ h=>h) rfl ?_ z.i ?_;rotate_left;(focus (intro M u;obtain⟨s0,s1,O,ZP,ZR,P,L⟩:=u;go_simp;(try with_reducible rfl);done));(try simp only[Act.put,yh]))
      |(refine aN 7 (v:=?_) rfl rfl (by kernel_rfl) (λ_ _ _ h=>h) rfl ?_ z.i ?_;rotate_left;(focus (intro M u;obtain⟨s0,s1,O,ZP,ZR,P,L⟩:=u;go_simp;(try with_reducible rfl);done));(try simp only[Act.put,yh]))
     first
      |(guard_hyp T3;refine aL (i:=29) rfl (by kernel_rfl) (λK hK=>?_))
      |(guard_hyp T2;refine aL (i:=17) rfl (by kernel_rfl) (λK hK=>?_))
      |refine aL (i:=6) rfl (by kernel_rfl) (λK hK=>?_)
     (go_simp;go_at_call 17;refine(CR.i _ ZO).P ?_;rintro e v2⟨rfl,r⟩;replace ZO:=ae (ZO.i.k (r.P ZO.size));clear r z;have z:=ae (SQ.i _ ZO);refine hK _ _ z.i ?_;clear hK K;obtain⟨v,rfl⟩:∃x,x=v2:=⟨_,rfl⟩;(try simp only[Act.put,yh]))
     first
      |(guard_hyp T3;refine aL (i:=31) rfl (by kernel_rfl) (λK hK=>?_))
      |(guard_hyp T2;refine aL (i:=19) rfl (by kernel_rfl) (λK hK=>?_))
      |refine aL (i:=8) rfl (by kernel_rfl) (λK hK=>?_)
     (go_simp;go_at_call 16;refine(C1.i _ ZO (by simp)).P ?_;rintro e v2⟨rfl,r⟩;replace ZO:=ae (ZO.i.k (r.P ZO.size));clear r z;have z:=ae (SQ.i _ ZO);refine hK _ _ z.i ?_;clear hK K;obtain⟨v,rfl⟩:∃x,x=v2:=⟨_,rfl⟩;(try simp only[Act.put,yh]))
     clear ZC
   (refine aN 0 (v:=ZF ZH) rfl rfl (by kernel_rfl) (λ_ _ _ h=>h) rfl ?_ z.i ?_;(focus (intro M u;obtain⟨s0,s1,O,ZP,ZR,P,L⟩:=u;go_simp;(try with_reducible rfl);done));(try simp only[Act.put,yh]))
   first
    |(guard_hyp T3;refine aN 0 (v:=ZF ZH) rfl rfl (by kernel_rfl) (λ_ _ _ h=>h) rfl ?_ z.i ?_;(focus (intro M u;obtain⟨s0,s1,O,ZP,ZR,P,L⟩:=u;go_simp;(try with_reducible rfl);done));(try simp only[Act.put,yh]);refine aN 0 (v:=?_) rfl rfl (by kernel_rfl) (λ_ _ _ h=>h) rfl ?_ z.i ?_;rotate_left;(focus (intro M u;obtain⟨s0,s1,O,ZP,ZR,P,L⟩:=u;go_simp;(try with_reducible rfl);done));(try simp only[Act.put,yh]))
    |(guard_hyp T2;refine aN 0 (v:=ZF ZH) rfl rfl (by kernel_rfl) (λ_ _ _ h=>h) rfl ?_ z.i ?_;(focus (intro M u;obtain⟨s0,s1,O,ZP,ZR,P,L⟩:=u;go_simp;(try with_reducible rfl);done));(try simp only[Act.put,yh]);iterate 2 (refine aN 0 (v:=?_) rfl rfl (by kernel_rfl) (λ_ _ _ h=>h) rfl ?_ z.i ?_;rotate_left;(focus (intro M u;obtain⟨s0,s1,O,ZP,ZR,P,L⟩:=u;go_simp;(try with_reducible rfl);done));(try simp only[Act.put,yh])))
    |(iterate 2 (refine aN 0 (v:=?_) rfl rfl (by kernel_rfl) (λ_ _ _ h=>h) rfl ?_ z.i ?_;rotate_left;(focus (intro M u;obtain⟨s0,s1,O,ZP,ZR,P,L⟩:=u;go_simp;(try with_reducible rfl);done));(try simp only[Act.put,yh])))
   (try (guard_hyp T2;have T3:=True.intro))
   have T2:=True.intro
   (try (have qr:=ro;clear ro))
   (try (have ZC:=ZD;clear ZD))
   (try (have ro:=GS;clear GS))
   (try (have ZD:=ZG;clear ZG))
   clear C1
   (try (have C1:=C2;clear C2))
   (try (have C2:=C3;clear C3))
  refine wpAnyH_done (by kernel_rfl) ?_ _;have B9:=ae (EW.i _ ZO);clear z SQ EW CR;go_wp2;go_ret;exact⟨rfl,B9⟩
