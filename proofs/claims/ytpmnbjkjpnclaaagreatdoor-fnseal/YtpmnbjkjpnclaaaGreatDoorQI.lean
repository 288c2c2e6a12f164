import Derived.Test.YtpmnbjkjpnclaaaGreatDoorQG
set_option maxRecDepth 100000
set_option maxHeartbeats 8000000
open Go renaming Addr.mk->Q,Value.slice->Z,Value.string->Y,Value.int->J,Obj.cells->N,IntKind.i64->I,World->M,Value->ZC,Ending.returned->ZF,World.cell?->A,Proofs.Tryz.prog->Pg
open Option renaming none->U,some->T
namespace Go.Proofs.YtpmnbjkjpnclaaaGreatDoor.Vp
open Tryz RowKit
variable {g b:Nat}{w c:M}{i f j l:ZC}
theorem Je{f:M}{i:Array ZC}{t:TypeId}{fz:Nat × Nat}(h:Kp b w f)(j:w.heap[g]?=T (N i t fz))(hb:g≠b)(l:t≠5):f.heap[g]?=T (N i t fz) :=
 h g _ j (λe=>hb (BC e)) (λc fz' e=>l (by injection e))
structure DBoxF (w:M)(g:Nat)(v0 v1 v2 v3 v4 v5:ZC):Prop where
 L:w.heap[g]?=T (N #[v0,v1,v2,v3,v4,v5] 46 (0,0))
theorem DBoxF.kp{n m:ZC}(h:DBoxF w g i f j l n m)(o:Kp b w c)(hb:g≠b):DBoxF c g i f j l n m:=⟨Je o h.L hb (by decide)⟩
theorem DBoxF.lt{c b:ZC}(h:DBoxF w g c b f i l j):g<w.heap.size:=(eT.1 h.L).1
theorem DBoxF.cells{c b:ZC}(h:DBoxF w g c b f i l j):A w (Q g 0 U)=T c/\A w (Q g 1 U)=T b/\A w (Q g 2 U)=T f/\A w (Q g 3 U)=T i/\A w (Q g 4 U)=T l/\A w (Q g 5 U)=T j:=by refine⟨?_,?_,?_,?_,?_,?_⟩<;>(rw[HU h.L];rfl)
theorem kE (w:M)(f c b g i h:ZC):DBoxF (w.alloc (N #[f,c,b,g,i,h] 46)) w.heap.size f c b g i h:=⟨by show(w.heap.push _)[w.heap.size]?=_;simp⟩
theorem Hm (a:ByteArray):joined [a]=a.data.toList:=by simp[joined,Lib.join]
theorem Hn (c:M)(b:Nat)(l:List UInt8)(d:Deed)(a0:Option Addr)(p:Nat)(a1:Option Addr)(f:Nat)(w:M)(hb:Below c.heap.size c w)(h:Bw w c.heap.size b l)(hT:Tab c)(aq:TabW c)(hP:Pow c)
  (hI:SlIns c a0 d.f d.H) (hL:SlLink c a1 d.b d.D) (hnm:d.e.size<=60) (DE:d.B.size<=2000) (At:0<=d.E) (sm:d.E<=5) (S:dC d.H d.f=true) (hna:d.f<=200) (hnl:d.b<=200)
  (mv:∀k,k<d.b->(d.D k).e.size<=60/\0<=(d.D k).L/\(d.D k).L<=400) (ZO:∀k,k<=d.b->(ee d.D k).length<=101*k) (hlen:l.length+1300000<=140737488355328) :
  Calls Pg 142 #[.pointer (T (Q b 0 U)),.agg #[Y d.e,J I d.m,J I d.E,Y d.B,Z a0 d.f p,Z a1 d.b f]] w λe w'=>e=ZF (.tuple #[])/\Bw w' c.heap.size b (l++mV d)/\Below c.heap.size c w'/\Kp b w w':=by
 have H:=ae h;have HB:=ae hb;have HP:=ae hP;have HT:=ae hT;have ur:=ae aq;have HI:=ae hI;have HL:=ae hL;have qr:=ae S;have th:=ae mv;have DH:=ae ZO;have hs:=hb.size;have dg:=hT.1;have hblt:=h.lt.2;have L:=uq S;have ph:=ae L;clear h hb hP hT aq hI hL S mv ZO L;obtain⟨m,hm⟩:∃m:Nat,d.E=(m:Int):=⟨d.E.toNat,by omega⟩
 have hm5:m<=5:=by omega
 have hd:=gU m (by omega);have hq:=cF d.e;have DQ:=ep d.B.data.toList;rw[cF] at DQ;have ZL:=ae ((q9 w).alloc ly (N #[Y d.e,J I d.m,J I d.E,Y d.B,Z a0 d.f p,Z a1 d.b f] 46));have x:=ae (kE w (Y d.e) (J I d.m) (J I d.E) (Y d.B) (Z a0 d.f p) (Z a1 d.b f));have X:=ae (H.aa ZL ly);have ZQ:=ae (HB.trans (ZL.mono hs));have K0:Hid (Kp b w (w.alloc (N #[Y d.e,J I d.m,J I d.E,Y d.B,Z a0 d.f p,Z a1 d.b f] 46))):=bM ZL;have O:Hid (joined [⟨#[116,97,114,103,101,116]⟩,d.e,⟨(Lib.decDigits m).toArray⟩,⟨(aF d.B.data.toList).toArray⟩]=eE d):=by show _=_;rw[ye];unfold eE;rw[hm];simp
 have hhl:(eE d).length<=6200:=by rw[<-O.out,ye];simp only[cM,eL,nX];omega
 rw[hm] at ZL x X ZQ K0 ⊢;clear ZL H HB At sm;go_enter func142,ntmps142;go_wp2_with fail;have q:w.heap.size≠b:=by omega
 generalize w.alloc (N #[Y d.e,J I d.m,J I (m:Int),Y d.B,Z a0 d.f p,Z a1 d.b f] 46)=W at x X ZQ K0 ⊢;generalize w.heap.size=G at x q ⊢;have hz:=x.lt;go_cut [18] (λ_ wx=>Hid (Bw wx c.heap.size b (l++eE d++[10]))/\Hid (Below c.heap.size c wx)/\Hid (Kp b W wx));case first =>
  have IT:=ae (λV (ZK:Below W.heap.size W V)=>pd m V (by omega) ((HP.aa ZQ ly).aa ZK ly));have QT:=ae (λV=>ng d.B V DE);have F:=ae (λV (R:Kp b W V)=>(show A V (Q G 0 U)=T (Y d.e)/\A V (Q G 2 U)=T (J I (m:Int))/\A V (Q G 3 U)=T (Y d.B) from⟨(x.kp R q).cells.1,(x.kp R q).cells.2.2.1,(x.kp R q).cells.2.2.2.1⟩));go_region_held3 (λV=>A V (Q G 0 U)=T (Y d.e)/\A V (Q G 2 U)=T (J I (m:Int))/\A V (Q G 3 U)=T (Y d.B)) (first|exact F _ (RP _ _ _)|exact F _ (RP _ _ _).drew|exact F _ (bM B1)|exact F _ (bM K)|exact F _ ((bM K).alloc _)|exact F _ ZJ)
   (first
   |(go_at_call 55;refine(IT _ ?_).mono ?_;(first|exact dB _ _|exact br.drew);rintro e ZN ⟨rfl,u⟩;have B1:Hid (Below W.heap.size W ZN):=⟨u.os,u.tape,u.output,u.size,u.block⟩;clear u)
   |(go_at_call 141;refine(QT _).mono ?_;rintro e P ⟨rfl,r⟩;have K:Hid (Below W.heap.size W P):=B1.trans (Below.mono (⟨r.os,r.tape,r.output,r.size,r.block⟩:Below ZN.heap.size ZN P) B1.size);clear r)
   |(go_at_call 79;refine(J7 c W P b l _ _ _ _ _ ZQ K X (by rw[O.out];omega)).mono ?_;rintro e w3 ⟨rfl,o,z,y⟩;rw[O.out] at o;have D3:=ae o;have B3:=ae z;have ZJ:=ae y;clear o z y))
  all_goals
   go_simp;go_wp2_with fail;go_meet;exact⟨D3,B3,ZJ⟩
 case rest =>
 obtain⟨D1,R1,K1⟩:=hcut;obtain⟨ZN,ro⟩:∃ZN,ZN=wc:=⟨_,rfl⟩
 subst ro;have X1:=ae (x.kp K1 q);obtain⟨c0,c1,c2,c3,c4,c5⟩:=X1.cells;go_wp2;clear c0 c1 c2 c3 c4 c5 X ZQ;go_loopw [23] (λi wr=>∃k:Nat,k<=d.f/\i=J I k/\Hid (Bw wr c.heap.size b (l++eE d++[10]++fq d.H k))/\Hid (Below c.heap.size c wr)/\Hid (Kp b W wr)) (λi _=>d.f - (intOf i).toNat);case atStart=>exact⟨0,by omega,rfl,by show Bw _ _ _ _;simpa[fq] using D1.out,R1,K1⟩
 case round =>
  obtain⟨k,R,rfl,HD,ZM,HK⟩:=hrel;have hdl:=ph.out k R;by_cases n9:k<d.f
  ·obtain⟨ib,io,rfl,g⟩:=HI.resolve_left (by omega);obtain⟨i0,i1,i2⟩:=(g.aa ZM ly).2 k n9;have D:=gP qr.out n9;have Bk:=ae D;have hdt:=AV D;have bt:Hid (joined [⟨#[100,111]⟩,⟨(aR (d.H k).op (d.H k).s.data.toList (d.H k).n).toArray⟩]=doT (d.H k)):=by show _=_;rw[lw];unfold doT;simp
   have hlt2:(k:Int)<d.f:=by omega
   have B:=ae ((q9 wr).alloc ly (N #[J I (d.H k).op,Y (d.H k).s,J I (d.H k).n] 151));have ZP:=ae (ZM.trans (B.mono ZM.size));clear g D;go_wp2_with fail;clear i0 i1 i2;refine(uU _ _ _ _ Bk (HT.aa ZP dg) (ur.aa ZP dg) (HP.aa ZP ly)).mono ?_;rintro e P ⟨rfl,ZK⟩;have K:=ae (B.trans (ZK.mono B.size));clear ZK B ZP;go_wp2_with fail;refine(zJ c wr P b _ _ _ _ ZM K HD (by rw[bt.out];simp only[cM,eL,nX];omega)).mono ?_;rintro e w3 ⟨rfl,o,z,y⟩;rw[bt.out] at o;have D3:=ae o;have B3:=ae z;have ZJ:=ae (HK.trans y);clear o z y;go_wp2;exact⟨⟨k+1,by omega,by go_num,by show Bw _ _ _ _;rw[fq];simpa using D3.out,B3,ZJ⟩,by simp[intOf];omega⟩
  ·obtain rfl:k=d.f:=by omega
   have X2:=ae (x.kp HK q);obtain⟨c0,c1,c2,c3,c4,c5⟩:=X2.cells;go_wp2;clear c0 c1 c2 c3 c4 c5;obtain⟨w4,DS⟩:∃w4,w4=wr:=⟨_,rfl⟩
   subst DS;go_loopw [36] (λi wr=>∃k:Nat,k<=d.b/\i=J I k/\Hid (Bw wr c.heap.size b (l++eE d++[10]++fq d.H d.f++ee d.D k))/\Hid (Below c.heap.size c wr)/\Hid (Kp b W wr)) (λi _=>d.b - (intOf i).toNat);case atStart=>exact⟨0,by omega,rfl,by show Bw _ _ _ _;simpa[ee] using HD.out,ZM,HK⟩
   case round =>
    obtain⟨j,hj,rfl,fd,E,ld⟩:=hrel;have ZO:=DH.out j hj;by_cases la:j<d.b
    ·obtain⟨lb,lo,rfl,g⟩:=HL.resolve_left (by omega);obtain⟨i0,i1,i2,i3⟩:=(g.aa E ly).2 j la;obtain⟨q1,q2,q3⟩:=th.out j la;have hlj2:(j:Int)<d.b:=by omega
     have B:=ae ((q9 wr).alloc ly (N #[Y (d.D j).e,.bool (d.D j).ask,.bool (d.D j).has,J I (d.D j).L] 91));have ZP:=ae (E.trans (B.mono E.size));have DI:=ae (fd.aa B ly);have KI:=ae (ld.trans (bM B));clear g;go_wp2_with fail;clear i0 i1 i2 i3;refine(EJ c b _ (d.D j) _ ZP DI HP q1 q2 q3 (by simp only[cM,eL,nX];omega)).mono ?_;rintro e w6 ⟨rfl,t,ZR,C⟩;have D6:=ae t;have B6:=ae ZR;have K6:=ae (KI.trans C);clear t ZR C;go_wp2;exact⟨⟨j+1,by omega,by go_num,by show Bw _ _ _ _;rw[ee];simpa using D6.out,B6,K6⟩,by simp[intOf];omega⟩
    ·obtain rfl:j=d.b:=by omega
     have ZI:Hid (joined [⟨#[101,110,100]⟩]=[101,110,100]):=by show _=_;rw[Hm]
     go_wp2_with fail;refine(J6 c wr wr b _ _ _ E br fd (by rw[ZI.out];simp only[cM,eL,nX];omega)).mono ?_;rintro e w6 ⟨rfl,t,ZR,C⟩;rw[ZI.out] at t;have D6:=ae t;have B6:=ae ZR;have K6:=ae (K0.trans (ld.trans C));clear t ZR C;go_wp2;go_end0;exact⟨rfl,by unfold mV;simpa using D6.out,B6,K6⟩
structure jV (w0:M)(a0 a1:Option Addr)(d:Deed):Prop where
 ins:SlIns w0 a0 d.f d.H
 V:SlLink w0 a1 d.b d.D
 nm:d.e.size<=60
 tx:d.B.size<=2000
 kd:d.m=1∨d.m=2∨d.m=3/\0<=d.E/\d.E<=5/\dC d.H d.f=true/\d.f<=200/\d.b<=200/\(∀k,k<d.b->(d.D k).e.size<=60/\0<=(d.D k).L/\(d.D k).L<=400)/\(∀k,k<=d.b->(ee d.D k).length<=101*k)
theorem EK{f:Nat->Deed}{n p:Nat}{a0 a1:Option Addr}(h:de f n=true)(m:p<n)(j:SlIns c a0 (f p).f (f p).H)(hL:SlLink c a1 (f p).b (f p).D):jV c a0 a1 (f p):=by
 obtain⟨h1,h2,h3⟩:=lU h p m;have hn:=fS h;refine⟨j,hL,h1,h2,?_⟩;rcases h3 with h3|h3|⟨b,c1,c2,c3,c4,c5,g⟩
 {exact .inl h3};{exact .inr (.inl h3)};{refine .inr (.inr ⟨b,c1,c2,c3,c4,c5,λk b=>?_,sd g (by omega)⟩);obtain⟨i,l,q3⟩:=iS (fR g k b);exact⟨i,l,by omega⟩}
theorem EN (f:M)(b:Nat)(l:List UInt8)(d:Deed)(a0:Option Addr)(g:Nat)(a1:Option Addr)(c:Nat)(w:M)(hb:Below f.heap.size f w)(h:Bw w f.heap.size b l)(E:Tab f)(t:TabW f)(F:Pow f)
  (r:jV f a0 a1 d) (j:d.m=1) (hlen:l.length+1300000<=140737488355328) :
  Calls Pg 80 #[.pointer (T (Q b 0 U)),.agg #[Y d.e,J I d.m,J I d.E,Y d.B,Z a0 d.f g,Z a1 d.b c]] w λe B=>e=ZF (.tuple #[])/\Bw B f.heap.size b (l++dI d)/\Below f.heap.size f B/\Kp b w B:=by
 have H:=ae h;have K:=ae hb;have HP:=ae F;have HT:=ae E;have HTW:=ae t;have HW:=ae r;have P:=hb.size;have hblt:=h.lt.2;have hq:=cF d.e;have L:=ep d.B.data.toList;rw[cF] at L;have hnm:=r.nm;have ZP:=r.tx;clear h hb F E t r;have s:=ae ((q9 w).alloc ly (N #[Y d.e,J I d.m,J I d.E,Y d.B,Z a0 d.f g,Z a1 d.b c] 46));have n:=ae (kE w (Y d.e) (J I d.m) (J I d.E) (Y d.B) (Z a0 d.f g) (Z a1 d.b c));have D:=ae (H.aa s ly);have z:=ae (K.trans (s.mono P));have ZR:Hid (Kp b w (w.alloc (N #[Y d.e,J I d.m,J I d.E,Y d.B,Z a0 d.f g,Z a1 d.b c] 46))):=bM s;have o:w.heap.size≠b:=by omega
 clear s H K;have C:Hid (joined [⟨#[115,111,117,114,99,101]⟩,d.e,⟨(aF d.B.data.toList).toArray⟩]=iD d):=by show _=_;rw[jH];unfold iD;simp
 have hjl:(iD d).length<=6200:=by rw[<-C.out,jH];simp only[cM,eL,nX];omega
 have ZO:Hid (dI d=iD d++[10]):=by show _=_;unfold dI;rw[p6 j]
 rw[ZO.out];rw[j] at n D z ZR ⊢;clear j;go_enter func80,ntmps80;go_wp2_with fail;generalize w.alloc (N #[Y d.e,J I 1,J I d.E,Y d.B,Z a0 d.f g,Z a1 d.b c] 46)=W at n D z ZR ⊢;generalize w.heap.size=q at n o ⊢;have ZQ:=ae (λV=>ng d.B V ZP);have m:=ae (λV (j:Kp b W V)=>(show A V (Q q 0 U)=T (Y d.e)/\A V (Q q 3 U)=T (Y d.B) from⟨(n.kp j o).cells.1,(n.kp j o).cells.2.2.2.1⟩));go_region_held3 (λV=>A V (Q q 0 U)=T (Y d.e)/\A V (Q q 3 U)=T (Y d.B)) (first|exact m _ (RP _ _ _)|exact m _ (RP _ _ _).drew|exact m _ (bM y)|exact m _ ((bM y).alloc _)|exact m _ ZN)
  (first
  |(go_at_call 141;refine(ZQ _).mono ?_;rintro e G ⟨rfl,i⟩;have y:Hid (Below W.heap.size W G):=⟨i.os,i.tape,i.output,i.size,i.block⟩;clear i)
  |(go_at_call 79;refine(zK f W G b l _ _ _ _ z y D (by rw[C.out];omega)).mono ?_;rintro e w3 ⟨rfl,p,x,u⟩;rw[C.out] at p;have ZM:=ae p;have O:=ae x;have ZN:=ae u;clear p x u))
 all_goals
  go_simp;go_wp2;go_end0;exact⟨rfl,by simpa using ZM.out,O,ZR.trans ZN⟩
theorem Cb (f:M)(b:Nat)(l:List UInt8)(d:Deed)(a0:Option Addr)(g:Nat)(a1:Option Addr)(c:Nat)(w:M)(hb:Below f.heap.size f w)(h:Bw w f.heap.size b l)(z:Tab f)(o:TabW f)(ZR:Pow f)
  (m:jV f a0 a1 d) (x:d.m=2) (hlen:l.length+1300000<=140737488355328) :
  Calls Pg 80 #[.pointer (T (Q b 0 U)),.agg #[Y d.e,J I d.m,J I d.E,Y d.B,Z a0 d.f g,Z a1 d.b c]] w λe t=>e=ZF (.tuple #[])/\Bw t f.heap.size b (l++dI d)/\Below f.heap.size f t/\Kp b w t:=by
 have H:=ae h;have C:=ae hb;have HP:=ae ZR;have HT:=ae z;have HTW:=ae o;have HW:=ae m;have ZP:=hb.size;have hblt:=h.lt.2;have hq:=cF d.e;have D:=ep d.B.data.toList;rw[cF] at D;have hnm:=m.nm;have htx:=m.tx;clear h hb ZR z o m;have n:=ae ((q9 w).alloc ly (N #[Y d.e,J I d.m,J I d.E,Y d.B,Z a0 d.f g,Z a1 d.b c] 46));have i:=ae (kE w (Y d.e) (J I d.m) (J I d.E) (Y d.B) (Z a0 d.f g) (Z a1 d.b c));have y:=ae (H.aa n ly);have r:=ae (C.trans (n.mono ZP));have s:Hid (Kp b w (w.alloc (N #[Y d.e,J I d.m,J I d.E,Y d.B,Z a0 d.f g,Z a1 d.b c] 46))):=bM n;have B:w.heap.size≠b:=by omega
 clear n H C;have u:Hid (joined [⟨#[110,111,110,101]⟩,d.e]=fT d):=by show _=_;rw[lw];unfold fT;simp
 have hjl:(fT d).length<=6200:=by rw[<-u.out,lw];simp only[cM,eL,nX];omega
 have F:Hid (dI d=fT d++[10]):=by show _=_;unfold dI;rw[gM (by omega),p6 x]
 rw[F.out];rw[x] at i y r s ⊢;clear x;go_enter func80,ntmps80;go_upto_region 5 with fail;generalize w.alloc (N #[Y d.e,J I 2,J I d.E,Y d.B,Z a0 d.f g,Z a1 d.b c] 46)=W at i y r s ⊢;generalize w.heap.size=gd at i B ⊢;obtain⟨x0,x1,x2,x3,x4,x5⟩:=i.cells;have hz:=i.lt;go_wp2_with fail;refine(zJ f W W b l _ _ _ r br y (by rw[u.out];omega)).mono ?_;rintro e w3 ⟨rfl,j,q,p⟩;rw[u.out] at j;have ZN:=ae j;have G:=ae q;have E:=ae p;clear j q p;go_wp2;go_end0;exact⟨rfl,by simpa using ZN.out,G,s.trans E⟩
theorem EO (g:M)(b:Nat)(l:List UInt8)(d:Deed)(a0:Option Addr)(f:Nat)(a1:Option Addr)(c:Nat)(w:M)(hb:Below g.heap.size g w)(h:Bw w g.heap.size b l)(C:Tab g)(n:TabW g)(ZP:Pow g)
  (i:jV g a0 a1 d) (y:d.m=3) (r:l.length+1300000<=140737488355328) :
  Calls Pg 80 #[.pointer (T (Q b 0 U)),.agg #[Y d.e,J I d.m,J I d.E,Y d.B,Z a0 d.f f,Z a1 d.b c]] w λe q=>e=ZF (.tuple #[])/\Bw q g.heap.size b (l++dI d)/\Below g.heap.size g q/\Kp b w q:=by
 have H:=ae h;have z:=ae hb;have O:=ae ZP;have R:=ae C;have E:=ae n;have s:=ae i;have P:=hb.size;have hblt:=h.lt.2;have hq:=cF d.e;have D:=ep d.B.data.toList;rw[cF] at D;have u:=i.nm;have ZN:=i.tx;clear h hb ZP C n i;have j:=ae ((q9 w).alloc ly (N #[Y d.e,J I d.m,J I d.E,Y d.B,Z a0 d.f f,Z a1 d.b c] 46));have F:=ae (kE w (Y d.e) (J I d.m) (J I d.E) (Y d.B) (Z a0 d.f f) (Z a1 d.b c));have B:=ae (H.aa j ly);have ZR:=ae (z.trans (j.mono P));have G:Hid (Kp b w (w.alloc (N #[Y d.e,J I d.m,J I d.E,Y d.B,Z a0 d.f f,Z a1 d.b c] 46))):=bM j;have hgd:w.heap.size≠b:=by omega
 clear j H z;obtain⟨c1,c2,c3,c4,c5,K,t⟩:=s.kd.resolve_left (by omega) |>.resolve_left (by omega) |>.2;have ZQ:Hid (dI d=mV d):=by show _=_;unfold dI;rw[gM (by omega),gM (by omega)]
 have x:=ae (λV hb h=>Hn g b l d a0 f a1 c V hb h R E O s.ins s.V u ZN c1 c2 c3 c4 c5 K t r);rw[ZQ.out];rw[y] at F B ZR G x ⊢;clear y c1 c2 c3 c4 c5 K t;obtain⟨x0,x1,x2,x3,x4,x5⟩:=F.cells;go_enter func80,ntmps80;go_wp2_with fail;refine(x _ ZR B).mono ?_;rintro e w3 ⟨rfl,m,p,o⟩;have ZM:=ae m;have ZO:=ae p;have L:=ae (G.trans o);clear m p o;go_wp2;go_end0;exact⟨rfl,ZM,ZO,L⟩
theorem EQ (c:M)(b:Nat)(l:List UInt8)(d:Deed)(a0:Option Addr)(g:Nat)(a1:Option Addr)(f:Nat)(w:M)(hb:Below c.heap.size c w)(h:Bw w c.heap.size b l)(o:Tab c)(m:TabW c)(q:Pow c)
  (n:jV c a0 a1 d) (i:l.length+1300000<=140737488355328) :
  Calls Pg 80 #[.pointer (T (Q b 0 U)),.agg #[Y d.e,J I d.m,J I d.E,Y d.B,Z a0 d.f g,Z a1 d.b f]] w λe p=>e=ZF (.tuple #[])/\Bw p c.heap.size b (l++dI d)/\Below c.heap.size c p/\Kp b w p:=by
 rcases n.kd with j|j|j;{exact EN c b l d a0 g a1 f w hb h o m q n j i};{exact Cb c b l d a0 g a1 f w hb h o m q n j i};{exact EO c b l d a0 g a1 f w hb h o m q n j.1 i}
