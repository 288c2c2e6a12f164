import Derived.Test.YtcnilonhfpimnaaGreatDoorDI
import Derived.Test.YtcnilonhfpimnaaGreatDoorDD
import Derived.Test.YtcnilonhfpimnaaGreatDoorDH
set_option linter.all false
set_option maxRecDepth 100000
set_option maxHeartbeats 16000000
open Go renaming Addr.mk->T,Value.slice->Z,Value.string->U,Value.bool->ZF,Value.agg->ZJ,Obj.cells->N,World->E,Ending.returned->ZI,World.heap->J,World.cell?->ZU
open Option renaming none->Y,some->Q
open Bool renaming false->ZA,true->ZH
open Array renaming size->I
open List renaming length->A
namespace Go.Proofs.YtcnilonhfpimnaaGreatDoor.Vp
open Tryz RowKit Ca
variable {S:J_}{n j_:Nat}{f:Nat->au}{a a0 a1:O_}{t:F_}
def qY{c0 c1:Nat}(w:E)(hn:(n:Int)<=1048576)(hn0:S.n0<=1048576)(hn1:S.n1<=1048576)(r:SlDeed w a n f)(o:(n:Int)<=j_)(g:∀i,i<n->cX (f i))(l:Qy w a0 S.n0 S.f0)(m:Qx w a1 S.n1 S.f1)(j:∀i,i<S.n1->aP (S.f1 i))(p:Tab w)(h:Tab2 w)(t:Pow w):Calls Tryz.prog 5 #[ZJ #[Z a n j_],ZJ #[Z a0 S.n0 c0,Z a1 S.n1 c1]] w λe x=>e=ZI (.int .i64 (fj S.n0 S.f0 S.n1 S.f1 f n).1)/\Below (I (J w)) w x:=by have b:=ae (((BS w).alloc ly (N #[Z a n j_] 25)).alloc (by simp) (N #[Z a0 S.n0 c0,Z a1 S.n1 c1] 29));have C:=ae (t6 a n j_ f a0 S.n0 c0 S.f0 a1 S.n1 c1 S.f1 _ hn (by omega) (by omega) (r.aa b ly) o g (l.aa b ly) (m.aa b ly) j (p.aa b p.1) (h.aa b h.1) (t.aa b ly));clear r l m g j p h t;generalize fj S.n0 S.f0 S.n1 S.f1 f n=q at C ⊢;go_enter func5,ntmps5;go_wp2_with fail;refine C.P ?_;rintro e w1⟨rfl,s⟩;have u:=ae (b.k (s.P b.size));clear s;go_wp2;go_ret;exact⟨rfl,u⟩
def mQ{c0 c1:Nat}{key:F_}(w:E)(hA:bc f n=ZH)(ZO:SlDeed w a n f)(aq:(n:Int)<=j_)(o:∀i,i<n->cX (f i))(ZM:∀i,i<n->fo (f i))(ZR:Qy w a0 S.n0 S.f0)(ZV:Qx w a1 S.n1 S.f1)(hn0:S.n0<=1048576)(hn1:S.n1<=1048576)(C:∀i,i<S.n1->aP (S.f1 i))(hL:∀V,Below (I (J w)) w V->Tab V/\Tab2 V/\Pow V)(ht:(f (n - 1)).e=t)(hk:key.toList ∉ ii f n->(fj S.n0 S.f0 S.n1 S.f1 f n).1=0):Calls Tryz.prog 15 #[ZJ #[Z a n j_],ZJ #[Z a0 S.n0 c0,Z a1 S.n1 c1],U t,U key] w λe w'=>e=ZI (ZF ZH)/\Below (I (J w)) w w':=by
 have hn:=er hA;have ZL:(n:Int)<=1048576:=by omega
 have SI:Hid _:=Dw (S:=S) hA;rw[ht] at SI;obtain⟨P,z⟩:∃W:E,(w.alloc (N #[Z a n j_] 25)).alloc (N #[Z a0 S.n0 c0,Z a1 S.n1 c1] 29)=W:=⟨_,rfl⟩
 obtain⟨p,-,KS,-⟩:=nb2 z;replace KS:=KS.i;replace p:=p.i;have y:=ae z;clear z;have CM:=ae (wA (S:=S) (a0:=a0) (a1:=a1) (c0:=c0) (c1:=c1) _ t (ZR.aa p ly) (ZV.aa p ly) hn0 hn1 C (hL _ p).1 (hL _ p).2.1 (hL _ p).2.2);have CA:=ae (λV (l:Below (I (J w)) w V)=>qY (S:=S) (a:=a) (n:=n) (j_:=j_) (c0:=c0) (c1:=c1) (f:=f) V ZL hn0 hn1 (ZO.aa l ly) aq o (ZR.aa l ly) (ZV.aa l ly) C (hL V l).1 (hL V l).2.1 (hL V l).2.2);have CN:=ae (λV (l:Below (I (J w)) w V)=>mW a n j_ f V ZL (ZO.aa l ly) o ZM);have CW:=ae (λV (l:Below (I (J w)) w V) a' m c' g hg=>wO a n j_ f a' m c' g V (by omega) (ZO.aa l ly) hg o);have x:=uM f n;have KA:P.heap[I (J w)]?=Q (N #[Z a n j_] 25 (0,0)):=by rw[<-y.i];rw[UK _ _ (by simp)];exact gM w _
 have A1:=ae p;have HK:=ae hk;have K1:=ae KA;have K2:=ae KS;clear hA ZO o ZM ZR ZV C hL ht hk p KA KS;generalize ii f n=NL at CN HK x;generalize (fj S.n0 S.f0 S.n1 S.f1 f n).1=q at CA HK SI;go_enter func15,ntmps15;go_upto_region 1 with fail;rw[y.i];clear y;have l0:=aj K1.i;have l1:=aj K2.i;have hw:=A1.size;have G:Hid (∀V,Below (I (J P)) P V->ZU V (T (I (J w)) 0 Y)=Q (Z a n j_)/\ZU V (T (I (J w)+1) 0 Y)=Q (Z a0 S.n0 c0)/\ZU V (T (I (J w)+1) 1 Y)=Q (Z a1 S.n1 c1)):=λV l=>by have p0:=(l.p _ l0).k K1.i;have p1:=(l.p _ l1).k K2.i;refine⟨?_,?_,?_⟩<;>simp[World.cell?,p0,p1]
 obtain⟨z0,z1,z2⟩:=G.i P br;go_wp2_with fail;refine CM.i.P ?_;rintro e X⟨d,dc,R,rv,rfl,hD,u,⟨ra,rk,rfl,-⟩,j⟩;have D:=hD.bd;rw[u] at D;have HN:=ae (show (A R)=(bE S t).1.length by have:=xT List.length u;simpa[bk] using this);clear z0 z1 z2 CM hD u;generalize (bE S t).2=rs;obtain⟨ZN,s⟩:∃W:E,(X.alloc (N #[Z d (A R) dc] 25)).alloc (N #[.int .i64 rs.M,U rs.H,Z ra (A rs.R) rk] 88)=W:=⟨_,rfl⟩
 obtain⟨ZT,-,-,-⟩:=nb2 s;replace ZT:=ZT.i;have r:=ae s;clear s;have kA:ZN.heap[I (J X)]?=Q (N #[Z d (A R) dc] 25 (0,0)):=by rw[<-r.i];rw[UK _ _ (by simp)];exact gM X _
 have H:=ae (j.k (ZT.P j.size));have D2:=ae (D.aa ZT ly);have O:=ae kA;clear ZT kA j D;go_upto_region 2 with fail;rw[r.i];clear r;generalize (I (J X))=ab at O ⊢;generalize (A R)=ZQ at D2 O HN ⊢;have k3:=O.i;have l3:=aj k3;have x0:ZU ZN (T ab 0 Y)=Q (Z d ZQ dc):=by simp[World.cell?,k3]
 clear k3 O;obtain⟨z0,-,-⟩:=G.i ZN H;have M:=ae (A1.k (H.P hw));go_wp2_with fail;refine(CW.i ZN M _ _ _ _ D2).P ?_;rintro e w3⟨b,rfl,hb,j⟩;have HQ:Hid (b=ZH ↔ q=0):=by rw[hb,HN.i];exact SI.i
 have ZP:=ae (H.k (j.P H.size));have L:=ae (M.k (j.P M.size));clear hb j x0 z0 l3 CW D2 HN SI H M;obtain⟨z0,z1,z2⟩:=G.i w3 ZP;go_wp2_with fail;refine(CA.i w3 L).P ?_;rintro e w4⟨rfl,j⟩;have B4:=ae (ZP.k (j.P ZP.size));have K:=ae (L.k (j.P L.size));clear j z0 z1 z2 CA ZP L;obtain⟨z0,-,-⟩:=G.i w4 B4;go_wp2_with fail;refine(CN.i w4 K).P ?_;rintro e w5⟨nb,no,m,nc,rfl,rfl,ZS,j⟩;have E5:=ae (K.k (j.P K.size));clear j z0 CN B4 K G;go_wp2_with fail;refine(rY (Q (T nb no Y)) (A NL) nc (nmF NL) key w5 x (.inr ⟨nb,no,rfl,ZS⟩)).P ?_;rintro e w6⟨b2,rfl,B,j⟩;have E6:=ae (E5.k (j.P E5.size));rw[Is] at B;have H2:=ae B;clear B j ZS E5 x;cases b2 with
 |false =>
  obtain rfl:q=0:=HK.i λh=>by have:=H2.i.2 h;cases this
  obtain rfl:b=ZH:=HQ.i.2 rfl;go_wp2;go_ret;exact⟨rfl,E6⟩
 |true =>
  cases b with
  |true =>obtain rfl:q=0:=HQ.i.1 rfl;go_wp2;go_ret;exact⟨rfl,E6⟩
  |false =>
   have h0:(q == 0)=ZA:=by simpa using λh=>by have:=HQ.i.2 h;cases this
   go_wp2;go_ret;exact⟨rfl,E6⟩
def tw{n0:Nat}{f0:Nat->Source}{n1:Nat}{f1:Nat->Target}(h:ij n0 f0 n1 f1 t=0):Besd ⟨n0,f0,n1,f1⟩ (spL (eB n0 f0 n1 f1 t) (fa n0 f0 n1 f1 t)) t/\aR (eB n0 f0 n1 f1 t).length (aV (eB n0 f0 n1 f1 t)) (fa n0 f0 n1 f1 t).length (aW (fa n0 f0 n1 f1 t))=0:=by
 have f:aR n0 f0 n1 f1=0:=by
  have b:=h;unfold ij at b;split at b;{cases b};{omega}
 rw[eB,fa,eT h,eT h];exact⟨sd (λ_ _=>Iff.rfl) (λ_ _=>Iff.rfl),jv (iY t f)⟩
def Gw (h:(fj S.n0 S.f0 S.n1 S.f1 f n).1=0):bc f n=ZH/\∀p,p<n->Borne S f p:=by
 have b:bc f n=ZH:=by
  cases e:bc f n with
  |true=>rfl
  |false =>unfold fj at h;rw[e,eI (by simp)] at h;cases h
 exact⟨b,((r9 (S:=S) b).1 h).2⟩
def Gx (a:O_)(n j_:Nat)(b:O_)(m f:Nat)(w:E)(h:1048576<(n:Int)\/1048576<(m:Int)):Calls Tryz.prog 3 #[Z a n j_,Z b m f] w λe g=>e=ZI (ZF ZH)/\Below (I (J w)) w g:=by
 by_cases h1:1048576<(n:Int)
 case' neg=>have h2:1048576<(m:Int):=h.resolve_left h1
 all_goals
  go_enter Y9,ntmps3;go_wp2;go_ret;exact⟨rfl,a8 _ _⟩
def uc (a:O_)(n j_:Nat)(b:O_)(m aq:Nat)(w:E)(hc:n<=j_)(ph:m<=aq)(hS:ByteSl w a n)(sm:ByteSl w b m)(hT:Tab w)(At:Tab2 w)(hP:Pow w):Calls Tryz.prog 3 #[Z a n j_,Z b m aq] w λe w'=>e=ZI (ZF ZH)/\Below (I (J w)) w w':=by
 by_cases ex:1048576<(n:Int)\/1048576<(m:Int)
 {exact Gx a n j_ b m aq w ex};have h1:¬ 1048576<(n:Int):=λh=>ex (.inl h);have h2:¬ 1048576<(m:Int):=λh=>ex (.inr h);have LY:=ae (λV (o:Below (I (J w)) w V)=>(⟨hT.aa o hT.1,At.aa o At.1,hP.aa o ly⟩:Tab V/\Tab2 V/\Pow V));have DM:=ae (ua a n j_ w (by omega) hc hS);have DS:=ae (λV (o:Below (I (J w)) w V)=>od b m aq V (by omega) ph (sm.aa o ly));have DT:=ae (λV (o:Below (I (J w)) w V)=>vR b m aq V (by omega) ph (sm.aa o ly));clear hT At hP hS sm hc ph ex;go_enter Y9,ntmps3;go_wp2_with fail;refine DM.i.P ?_;rintro e w1⟨a0,n0,c0,f0,a1,n1,c1,f1,d,ZQ,dc,f,rfl,hH,hA,-,DQ⟩;clear DM h1 h2;have hn0:=hH.hn0;have hn1:=hH.hn1;have hN:=hA.hn;have hcap:=hA.j_;have bt:=ae (show ∀i,i<n1->aP (f1 i) from λi hi=>by have:=(hH.aq i hi).1;unfold aP;omega);have fd:=ae (show ∀i,i<n1->∀j,j<(f1 i).h->((f1 i).q j).s.size<=maxLen from λi hi j hj=>by have:=(hH.aq i hi).2 j hj;unfold maxLen;omega);have R:=ae (λi hi=>(hA.aq i hi).fits);have W:=ae (λi hi=>(hA.aq i hi).sized);have ZT:=ae (Jh (c0:=c0) (c1:=c1) hH hA DQ);clear hH hA DQ;go_upto_region 4 with fail;generalize World.alloc (World.alloc w1 _) _=W1 at ZT ⊢;generalize (I (J w1))+1=sb at ZT ⊢;generalize (I (J w1))=ab at ZT ⊢;have PF:Hid _:=Gw (S:=⟨n0,f0,n1,f1⟩) (f:=f) (n:=ZQ);have CA:=ae (λV (o:Lw w ab sb d ZQ dc f a0 n0 c0 f0 a1 n1 c1 f1 V)=>qY (S:=⟨n0,f0,n1,f1⟩) (a:=d) (n:=ZQ) (j_:=dc) (c0:=c0) (c1:=c1) (f:=f) V (by omega) (by show n0<=_;omega) (by show n1<=_;omega) o.dd (by omega) R o.s0 o.s1 bt (LY.i V o.b).1 (LY.i V o.b).2.1 (LY.i V o.b).2.2);have CG:=ae (λV (o:Lw w ab sb d ZQ dc f a0 n0 c0 f0 a1 n1 c1 f1 V)=>t8 d ZQ dc f a0 n0 c0 f0 a1 n1 c1 f1 V (by omega) (by omega) (by omega) o.dd R W o.s0 o.s1 bt fd);simp only at PF CA;generalize fj n0 f0 n1 f1 f ZQ=q at PF CA CG;obtain⟨q1,q2⟩:=q;obtain⟨y0,y1,x0⟩:=ZT.i.c;go_wp2_with fail;refine(CA.i _ ZT).P ?_;rintro e w2⟨rfl,r⟩;replace ZT:=ae (ZT.i.aa r);clear r x0 y0 y1 CA;by_cases hq:q1=0;case neg =>
  have hc:(q1 == 0)=ZA:=by simpa using hq
  obtain⟨y0,y1,x0⟩:=ZT.i.c;go_wp2_with fail;refine(CG.i _ ZT).P ?_;rintro e w3⟨rfl,r⟩;have B9:=ae (ZT.i.aa r).b;clear r x0 y0 y1 CG;go_wp2;go_ret;exact⟨rfl,B9⟩
 obtain⟨ld,th⟩:=PF.i hq;subst hq;have hpos:=(er ld).1;have ZL:=ae ld;have mv:=ae th;clear ld th PF CG;go_wp2_with fail;refine(DT.i _ ZT.b).P ?_;rintro e w3⟨p0,q0,r0,p1,q1,r1,l,g,B,pc,H,rfl,hI,hpm,DE,r⟩;have A9:=((BS w3).alloc ly (N #[Z p0 q0 r0,Z p1 q1 r1] 29)).alloc (by simp) (N #[Z (Q (T g 0 Y)) B pc] 37);replace ZT:=ae (ZT.i.aa (r.k (A9.P r.size)));have GS:=ae (show ∀j,j<B->(H j).s.size<=maxLen from λj hj=>by have:=DE j hj;unfold maxLen;omega);have ZS:Hid (PP ((w3.alloc (N #[Z p0 q0 r0,Z p1 q1 r1] 29)).alloc (N #[Z (Q (T g 0 Y)) B pc] 37)) (I (J w3)+1) g B pc H):=⟨SL w3 _ _,hI.aa A9 ly⟩
 clear A9 r DT hI DE;go_upto_region 8 with fail;generalize World.alloc (World.alloc w3 _) _=W3 at ZT ZS ⊢;generalize (I (J w3))+1=pb at ZS ⊢;go_wp2_with fail;refine(DS.i _ ZT.b).P ?_;rintro e w4⟨p0,q0,r0,-,p1,q1,r1,-,key2,tx,rfl,-,r⟩;have A8:=(BS w4).alloc ly (N #[Z p0 q0 r0,Z p1 q1 r1] 29);have y:=r.k (A8.P r.size);replace ZT:=ae (ZT.i.aa y);replace ZS:=ae (ZS.aa y ly);clear A8 y r DS;go_upto_region 9 with fail;generalize World.alloc w4 _=W4 at ZT ZS ⊢;obtain⟨NL,qr⟩:∃NL,NL=ii f ZQ:=⟨_,rfl⟩
 have n9:A NL<=1048576:=by rw[qr];exact uM f ZQ
 have EN:=ae qr;clear qr;have x0:=ZT.ax.c0;go_wp2_with fail;refine(tS d ZQ dc f _ (by omega) ZT.dd (by omega) R W (LY.i _ ZT.b).1).P ?_;rintro e w5⟨v,rfl,ho,r⟩;rw[<-EN.i] at ho;obtain⟨na,nc,rfl⟩:=aJ ho;have N5:=ae (Ir ho);replace ZT:=ae (ZT.i.aa r);replace ZS:=ae (ZS.aa r ly);clear ho r x0;go_wp2_with fail;refine(rY na (A NL) nc (nmF NL) l w5 n9 N5).P ?_;rintro e w6⟨bi,rfl,Fd,r⟩;replace ZT:=ae (ZT.i.aa r);replace ZS:=ae (ZS.aa r ly);have n8:=ae Fd;clear r Fd N5;cases bi with
 |true =>have x0:=ZT.ax.c0;go_wp2_with fail;refine(mW d ZQ dc f _ (by omega) ZT.dd R W).P ?_;rintro e w7⟨b7,o7,m7,c7,rfl,Fm,hr,r⟩;rw[<-EN.i] at Fm hr;subst Fm;have R7:Hid (SlStr w7 (Q (T b7 o7 Y)) (A NL) (nmF NL)):=.inr ⟨b7,o7,rfl,hr⟩;replace ZT:=ae (ZT.i.aa r);clear hr r x0;go_wp2_with fail;refine(rY (Q (T b7 o7 Y)) (A NL) c7 (nmF NL) l w7 n9 R7).P ?_;rintro e w8⟨b8,rfl,Fk,r⟩;obtain rfl:b8=ZH:=Fk.2 (n8.i.1 (by simp));have B9:=ae (ZT.i.aa r).b;clear Fk r;go_wp2;go_ret;exact⟨rfl,B9⟩
 |false =>
 have Bk:l.toList ∉ ii f ZQ:=by rw[<-EN.i];intro hm;obtain⟨i,hi,e⟩:=QL hm;have:=n8.i.2 ⟨i,hi,(jM hi).k e⟩;cases this
 have NK:=ae Bk;clear Bk n8 EN n9;have PZ:=ae (wI (n0:=n0) (f0:=f0) (n1:=n1) (f1:=f1) (t:=l) (tx:=tx));have RZ:=ae (wJ (n0:=n0) (f0:=f0) (n1:=n1) (f1:=f1) (t:=l) (m:=B) (fp:=H));have DZ:=ae (wK (n0:=n0) (f0:=f0) (n1:=n1) (f1:=f1) (t:=l));have PM:Hid (iC n0 f0 n1 f1 l tx=0->(fj (spL (eZ n0 f0 n1 f1 l tx) (fC n0 f0 n1 f1 l tx)).n0 (spL (eZ n0 f0 n1 f1 l tx) (fC n0 f0 n1 f1 l tx)).f0 (spL (eZ n0 f0 n1 f1 l tx) (fC n0 f0 n1 f1 l tx)).n1 (spL (eZ n0 f0 n1 f1 l tx) (fC n0 f0 n1 f1 l tx)).f1 f ZQ).1=0):=λh=>mO (Dx h) (jv (FA h).1) ZL mv NK;have RM:Hid (fW n0 f0 n1 f1 l (valid H B)=0->(fj (spL (d9 n0 f0 n1 f1 l B H) (eE n0 f0 n1 f1 l B H)).n0 (spL (d9 n0 f0 n1 f1 l B H) (eE n0 f0 n1 f1 l B H)).f0 (spL (d9 n0 f0 n1 f1 l B H) (eE n0 f0 n1 f1 l B H)).n1 (spL (d9 n0 f0 n1 f1 l B H) (eE n0 f0 n1 f1 l B H)).f1 f ZQ).1=0):=λh=>mO (Dy h) (jv (Dv h).2.1) ZL mv NK;have XM:Hid (ij n0 f0 n1 f1 l=0->(fj (spL (eB n0 f0 n1 f1 l) (fa n0 f0 n1 f1 l)).n0 (spL (eB n0 f0 n1 f1 l) (fa n0 f0 n1 f1 l)).f0 (spL (eB n0 f0 n1 f1 l) (fa n0 f0 n1 f1 l)).n1 (spL (eB n0 f0 n1 f1 l) (fa n0 f0 n1 f1 l)).f1 f ZQ).1=0):=λh=>mO (tw h).1 (tw h).2 ZL mv NK;have CS:=ae (nE a0 n0 c0 f0 a1 n1 c1 f1 l tx);have CT:=ae (nG a0 n0 c0 f0 a1 n1 c1 f1 l (Q (T g 0 Y)) B pc H);have CD:=ae (nF a0 n0 c0 f0 a1 n1 c1 f1 l);generalize iC n0 f0 n1 f1 l tx=C at PM CS;generalize eZ n0 f0 n1 f1 l tx=LS at PM PZ CS;generalize fC n0 f0 n1 f1 l tx=LT at PM PZ CS;generalize fW n0 f0 n1 f1 l (valid H B)=D at RM CT;generalize d9 n0 f0 n1 f1 l B H=MS at RM RZ CT;generalize eE n0 f0 n1 f1 l B H=MT at RM RZ CT;generalize ij n0 f0 n1 f1 l=G at XM CD;generalize eB n0 f0 n1 f1 l=US at XM DZ CD;generalize fa n0 f0 n1 f1 l=UT at XM DZ CD;clear NK mv;obtain⟨y0,y1,-⟩:=ZT.i.c;go_wp2_with fail;refine(CS.i _ (by omega) (by omega) ZT.s0 ZT.s1 bt fd).P ?_;rintro e wa⟨v0,v1,RR,rfl,hs,ht,hm,r⟩;obtain⟨d0,e0,d1,e1,rfl,rfl,hM⟩:=wL hs ht hm;clear y0 y1 hs ht hm CS;have ZM:=(BS wa).alloc ly (N #[Z d0 (A LS) e0,Z d1 (A LT) e1] 29);have y:=r.k (ZM.P r.size);replace ZT:=ae (ZT.i.aa y);replace ZS:=ae (ZS.aa y ly);have X:Hid (SBx (wa.alloc (N #[Z d0 (A LS) e0,Z d1 (A LT) e1] 29)) (I (J wa)) (Z d0 (A LS) e0) (Z d1 (A LT) e1)):=gM wa _;have M3:=ae (hM.aa ZM ly);clear hM ZM r y;go_upto_region 12 with fail;generalize World.alloc wa _=Wa at ZT X M3 ZS ⊢;generalize (I (J wa))=ob at X ⊢;obtain⟨y0,y1,-⟩:=ZT.i.c;have x2:=ZS.p.c0;go_wp2_with fail;refine(CT.i _ (by omega) (by omega) (by omega) ZT.s0 ZT.s1 (.inr ⟨g,0,rfl,ZS.i⟩) bt fd GS).P ?_;rintro e wb⟨v0,v1,RR,rfl,hs,ht,hm,r⟩;obtain⟨h0,k0,la,k1,rfl,rfl,hM⟩:=wL hs ht hm;clear y0 y1 x2 hs ht hm CT ZS GS;have ZM:=(BS wb).alloc ly (N #[Z h0 (A MS) k0,Z la (A MT) k1] 29);have y:=r.k (ZM.P r.size);replace ZT:=ae (ZT.i.aa y);replace X:=ae (X.aa y ly);replace M3:=ae (M3.aa y ly);have X4:Hid (SBx (wb.alloc (N #[Z h0 (A MS) k0,Z la (A MT) k1] 29)) (I (J wb)) (Z h0 (A MS) k0) (Z la (A MT) k1)):=gM wb _;have M4:=ae (hM.aa ZM ly);clear hM ZM r y;go_upto_region 13 with fail;generalize World.alloc wb _=Wb at ZT X M3 X4 M4 ⊢;generalize (I (J wb))=tb at X4 ⊢;obtain⟨y0,y1,-⟩:=ZT.i.c;go_wp2_with fail;refine(CD.i _ (by omega) (by omega) ZT.s0 ZT.s1 bt fd).P ?_;rintro e wc⟨v0,v1,RR,rfl,hs,ht,hm,r⟩;obtain⟨l0,o0,l1,o1,rfl,rfl,hM⟩:=wL hs ht hm;clear y0 y1 hs ht hm CD;have ZM:=(BS wc).alloc ly (N #[Z l0 (A US) o0,Z l1 (A UT) o1] 29);have y:=r.k (ZM.P r.size);replace ZT:=ae (ZT.i.aa y);replace X:=ae (X.aa y ly);replace M3:=ae (M3.aa y ly);replace X4:=ae (X4.aa y ly);replace M4:=ae (M4.aa y ly);have X5:Hid (SBx (wc.alloc (N #[Z l0 (A US) o0,Z l1 (A UT) o1] 29)) (I (J wc)) (Z l0 (A US) o0) (Z l1 (A UT) o1)):=gM wc _;have M5:=ae (hM.aa ZM ly);clear hM ZM r y;go_upto_region 14 with fail;generalize World.alloc wc _=ZV at ZT X M3 X4 M4 X5 M5 ⊢;generalize (I (J wc))=ub at X5 ⊢;have CR:=ae (λV (o:Below (I (J ZV)) ZV V)=>Du d ZQ dc f V (by omega) (by omega) (ZT.i.aa o).dd);have hL:Hid (∀V,Below (I (J ZV)) ZV V->∀ZN,Below (I (J V)) V ZN->Tab ZN/\Tab2 ZN/\Pow ZN):=λV o ZN hU=>LY.i ZN ((ZT.i.aa o).aa hU).b;have C1:=ae (λV (o:Below (I (J ZV)) ZV V) (hC:C=0)=>mQ (S:=spL LS LT) (t:=(f (ZQ - 1)).e) (key:=l) (j_:=dc) (c0:=e0) (c1:=e1) V ZL (ZT.i.aa o).dd (by omega) R W (M3.aa o ly).s0 (M3.aa o ly).s1 (by show (A LS)<=_;have:=PZ.n0;omega) (by show (A LT)<=_;have:=PZ.n1;omega) PZ.aq (hL.i V o) rfl (λ_=>PM.i hC));have C2:=ae (λV (o:Below (I (J ZV)) ZV V) (hC:D=0)=>mQ (S:=spL MS MT) (t:=(f (ZQ - 1)).e) (key:=l) (j_:=dc) (c0:=k0) (c1:=k1) V ZL (ZT.i.aa o).dd (by omega) R W (M4.aa o ly).s0 (M4.aa o ly).s1 (by show (A MS)<=_;have:=RZ.n0;omega) (by show (A MT)<=_;have:=RZ.n1;omega) RZ.aq (hL.i V o) rfl (λ_=>RM.i hC));have C3:=ae (λV (o:Below (I (J ZV)) ZV V) (hC:G=0)=>mQ (S:=spL US UT) (t:=(f (ZQ - 1)).e) (key:=l) (j_:=dc) (c0:=o0) (c1:=o1) V ZL (ZT.i.aa o).dd (by omega) R W (M5.aa o ly).s0 (M5.aa o ly).s1 (by show (A US)<=_;have:=DZ.n0;omega) (by show (A UT)<=_;have:=DZ.n1;omega) DZ.aq (hL.i V o) rfl (λ_=>XM.i hC));simp only[spL] at C1 C2 C3;generalize (f (ZQ - 1)).e=t at CR C1 C2 C3;have SQ:Hid (∀V,Below (I (J ZV)) ZV V->ZU V (T ab 0 Y)=Q (Z d ZQ dc)/\ZU V (T ob 0 Y)=Q (Z d0 (A LS) e0)/\ZU V (T ob 1 Y)=Q (Z d1 (A LT) e1)/\ZU V (T tb 0 Y)=Q (Z h0 (A MS) k0)/\ZU V (T tb 1 Y)=Q (Z la (A MT) k1)/\ZU V (T ub 0 Y)=Q (Z l0 (A US) o0)/\ZU V (T ub 1 Y)=Q (Z l1 (A UT) o1)):=λV o=>⟨(ZT.i.aa o).ax.c0,(X.aa o ly).c0,(X.aa o ly).c1,(X4.aa o ly).c0,(X4.aa o ly).c1,(X5.aa o ly).c0,(X5.aa o ly).c1⟩
 have EW:=ae (λV (o:Below (I (J ZV)) ZV V)=>(ZT.i.aa o).b);clear PM RM XM PZ RZ DZ M3 M4 M5 X X4 X5 hL ZL R W bt fd LY ZT;by_cases hC:C=0;case' pos=>(subst hC;have ZC:=True.intro)
 case' neg=>have ro:(C != 0)=ZH:=by simpa using hC
 all_goals
  by_cases hD:D=0;case' pos=>(subst hD;have ZD:=True.intro)
  case' neg=>have ur:(D != 0)=ZH:=by simpa using hD
 all_goals
  by_cases hG:G=0;case' pos=>(subst hG;have ZG:=True.intro)
  case' neg=>have Hx:(G != 0)=ZH:=by simpa using hG
 all_goals
  have T1:=True.intro;go_wp2_with fail;refine wp_region_held_drew (S:=λV=>ZU V (T ab 0 Y)=Q (Z d ZQ dc)/\ZU V (T ob 0 Y)=Q (Z d0 (A LS) e0)/\ZU V (T ob 1 Y)=Q (Z d1 (A LT) e1)/\ZU V (T tb 0 Y)=Q (Z h0 (A MS) k0)/\ZU V (T tb 1 Y)=Q (Z la (A MT) k1)/\ZU V (T ub 0 Y)=Q (Z l0 (A US) o0)/\ZU V (T ub 1 Y)=Q (Z l1 (A UT) o1)) (by kernel_rfl) (SQ.i _ br.drew) λhS=>?_;have z:=ae hS;have ZP:Hid (Below (I (J ZV)) ZV ZV.drew):=br.drew;clear hS;generalize ZV.drew=v at ZP z ⊢
  (refine aN 0 (v:=?_) rfl rfl (by kernel_rfl) (λ_ _ _ h=>h) rfl ?_ z.i ?_;rotate_left;(focus (intro ZO u;obtain⟨s0,s1,O,ZR,M,L,P⟩:=u;go_simp;(try with_reducible rfl);done));(try simp only[Act.put,z_]))
  iterate 3
   first
    |guard_hyp ro
     (refine aN 0 (v:=ZF ZH) rfl rfl (by kernel_rfl) (λ_ _ _ h=>h) rfl ?_ z.i ?_;(focus (intro ZO u;obtain⟨s0,s1,O,ZR,M,L,P⟩:=u;go_simp;(try with_reducible rfl);done));(try simp only[Act.put,z_]))
     (refine aN 0 (v:=?_) rfl rfl (by kernel_rfl) (λ_ _ _ h=>h) rfl ?_ z.i ?_;rotate_left;(focus (intro ZO u;obtain⟨s0,s1,O,ZR,M,L,P⟩:=u;go_simp;(try with_reducible rfl);done));(try simp only[Act.put,z_]))
     iterate 6 (refine Br 0 rfl rfl (by kernel_rfl) (λ_ _ _ h=>h) rfl z.i ?_;(try simp only[Act.put,z_]))
     clear ro
    |guard_hyp ZC
     (refine aN 0 (v:=ZF ZA) rfl rfl (by kernel_rfl) (λ_ _ _ h=>h) rfl ?_ z.i ?_;(focus (intro ZO u;obtain⟨s0,s1,O,ZR,M,L,P⟩:=u;go_simp;(try with_reducible rfl);done));(try simp only[Act.put,z_]))
     iterate 4 (refine aN 0 (v:=?_) rfl rfl (by kernel_rfl) (λ_ _ _ h=>h) rfl ?_ z.i ?_;rotate_left;(focus (intro ZO u;obtain⟨s0,s1,O,ZR,M,L,P⟩:=u;go_simp;(try with_reducible rfl);done));(try simp only[Act.put,z_]))
     first
      |(guard_hyp T3;refine aN 30 (v:=?_) rfl rfl (by kernel_rfl) (λ_ _ _ h=>h) rfl ?_ z.i ?_;rotate_left;(focus (intro ZO u;obtain⟨s0,s1,O,ZR,M,L,P⟩:=u;go_simp;(try with_reducible rfl);done));(try simp only[Act.put,z_]))
      |(guard_hyp T2;refine aN 18 (v:=?_) rfl rfl (by kernel_rfl) (λ_ _ _ h=>h) rfl ?_ z.i ?_;rotate_left;(focus (intro ZO u;obtain⟨s0,s1,O,ZR,M,L,P⟩:=u;go_simp;(try with_reducible rfl);done));(try simp only[Act.put,z_]))
      |(refine aN 7 (v:=?_) rfl rfl (by kernel_rfl) (λ_ _ _ h=>h) rfl ?_ z.i ?_;rotate_left;(focus (intro ZO u;obtain⟨s0,s1,O,ZR,M,L,P⟩:=u;go_simp;(try with_reducible rfl);done));(try simp only[Act.put,z_]))
     first
      |(guard_hyp T3;refine aL (i:=29) rfl (by kernel_rfl) (λK hK=>?_))
      |(guard_hyp T2;refine aL (i:=17) rfl (by kernel_rfl) (λK hK=>?_))
      |refine aL (i:=6) rfl (by kernel_rfl) (λK hK=>?_)
     (go_simp;go_at_call 16;refine(CR.i _ ZP).P ?_;rintro e v2⟨rfl,r⟩;replace ZP:=ae (ZP.i.k (r.P ZP.size));clear r z;have z:=ae (SQ.i _ ZP);refine hK _ _ z.i ?_;clear hK K;obtain⟨v,rfl⟩:∃x,x=v2:=⟨_,rfl⟩;(try simp only[Act.put,z_]))
     first
      |(guard_hyp T3;refine aL (i:=31) rfl (by kernel_rfl) (λK hK=>?_))
      |(guard_hyp T2;refine aL (i:=19) rfl (by kernel_rfl) (λK hK=>?_))
      |refine aL (i:=8) rfl (by kernel_rfl) (λK hK=>?_)
     (go_simp;go_at_call 15;refine(C1.i _ ZP (by simp)).P ?_;rintro e v2⟨rfl,r⟩;replace ZP:=ae (ZP.i.k (r.P ZP.size));clear r z;have z:=ae (SQ.i _ ZP);refine hK _ _ z.i ?_;clear hK K;obtain⟨v,rfl⟩:∃x,x=v2:=⟨_,rfl⟩;(try simp only[Act.put,z_]))
     clear ZC
   (refine aN 0 (v:=ZF ZH) rfl rfl (by kernel_rfl) (λ_ _ _ h=>h) rfl ?_ z.i ?_;(focus (intro ZO u;obtain⟨s0,s1,O,ZR,M,L,P⟩:=u;go_simp;(try with_reducible rfl);done));(try simp only[Act.put,z_]))
   first
    |(guard_hyp T3;refine aN 0 (v:=ZF ZH) rfl rfl (by kernel_rfl) (λ_ _ _ h=>h) rfl ?_ z.i ?_;(focus (intro ZO u;obtain⟨s0,s1,O,ZR,M,L,P⟩:=u;go_simp;(try with_reducible rfl);done));(try simp only[Act.put,z_]);refine aN 0 (v:=?_) rfl rfl (by kernel_rfl) (λ_ _ _ h=>h) rfl ?_ z.i ?_;rotate_left;(focus (intro ZO u;obtain⟨s0,s1,O,ZR,M,L,P⟩:=u;go_simp;(try with_reducible rfl);done));(try simp only[Act.put,z_]))
    |(guard_hyp T2;refine aN 0 (v:=ZF ZH) rfl rfl (by kernel_rfl) (λ_ _ _ h=>h) rfl ?_ z.i ?_;(focus (intro ZO u;obtain⟨s0,s1,O,ZR,M,L,P⟩:=u;go_simp;(try with_reducible rfl);done));(try simp only[Act.put,z_]);iterate 2 (refine aN 0 (v:=?_) rfl rfl (by kernel_rfl) (λ_ _ _ h=>h) rfl ?_ z.i ?_;rotate_left;(focus (intro ZO u;obtain⟨s0,s1,O,ZR,M,L,P⟩:=u;go_simp;(try with_reducible rfl);done));(try simp only[Act.put,z_])))
    |(iterate 2 (refine aN 0 (v:=?_) rfl rfl (by kernel_rfl) (λ_ _ _ h=>h) rfl ?_ z.i ?_;rotate_left;(focus (intro ZO u;obtain⟨s0,s1,O,ZR,M,L,P⟩:=u;go_simp;(try with_reducible rfl);done));(try simp only[Act.put,z_])))
   (try (guard_hyp T2;have T3:=True.intro))
   have T2:=True.intro
   (try (have ro:=ur;clear ur))
   (try (have ZC:=ZD;clear ZD))
   (try (have ur:=Hx;clear Hx))
   (try (have ZD:=ZG;clear ZG))
   clear C1
   (try (have C1:=C2;clear C2))
   (try (have C2:=C3;clear C3))
  refine wpAnyH_done (by kernel_rfl) ?_ _;have B9:=ae (EW.i _ ZP);clear z SQ EW CR;go_wp2;go_ret;exact⟨rfl,B9⟩
