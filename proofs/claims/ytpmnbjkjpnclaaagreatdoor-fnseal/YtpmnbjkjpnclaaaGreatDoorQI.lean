import Derived.Test.YtpmnbjkjpnclaaaGreatDoorQG
set_option maxRecDepth 100000
set_option maxHeartbeats 8000000
open Go renaming Addr.mk->Q,Value.slice->Z,Value.string->U,Value.int->N,Value.agg->ZH,Obj.cells->J,IntKind.i64->I,World->M,Value->ZC,Ending.returned->ZF,World.cell?->A,Proofs.Tryz.prog->Pg
open Option renaming none->Y,some->T
namespace Go.Proofs.YtpmnbjkjpnclaaaGreatDoor.Vp
open Tryz RowKit
variable {g b:Nat}{w:M}{f c i l j:ZC}
theorem Jp{i:M}{f:Array ZC}{t:TypeId}{fz:Nat × Nat}(h:Kp b w i)(l:w.heap[g]?=T (J f t fz))(hb:g≠b)(j:t≠5):i.heap[g]?=T (J f t fz) :=
 h g _ l (λe=>hb (BC e)) (λc fz' e=>j (by injection e))
structure DBoxF (w:M)(g:Nat)(v0 v1 v2 v3 v4 v5:ZC):Prop where
 L:w.heap[g]?=T (J #[v0,v1,v2,v3,v4,v5] 46 (0,0))
theorem DBoxF.kp{j:M}{n m:ZC}(h:DBoxF w g f n m c i l)(o:Kp b w j)(hb:g≠b):DBoxF j g f n m c i l:=⟨Jp o h.L hb (by decide)⟩
theorem DBoxF.lt{b:ZC}(h:DBoxF w g c l j b f i):g<w.heap.size:=(eT.1 h.L).1
theorem DBoxF.cells{b:ZC}(h:DBoxF w g c l j b f i):A w (Q g 0 Y)=T c/\A w (Q g 1 Y)=T l/\A w (Q g 2 Y)=T j/\A w (Q g 3 Y)=T b/\A w (Q g 4 Y)=T f/\A w (Q g 5 Y)=T i:=by refine⟨?_,?_,?_,?_,?_,?_⟩<;>(rw[HU h.L];rfl)
theorem kH (w:M)(c i g b h f:ZC):DBoxF (w.alloc (J #[c,i,g,b,h,f] 46)) w.heap.size c i g b h f:=⟨by show(w.heap.push _)[w.heap.size]?=_;simp⟩
theorem Hv (a:ByteArray):joined [a]=a.data.toList:=by simp[joined,Lib.join]
theorem Hw (c:M)(b:Nat)(l:List UInt8)(d:Deed)(a0:Option Addr)(p:Nat)(a1:Option Addr)(g:Nat)(w:M)(hb:Below c.heap.size c w)(h:Bw w c.heap.size b l)(hT:Tab c)(ld:TabW c)(hP:Pow c)
  (hI:SlIns c a0 d.f d.H) (hL:SlLink c a1 d.b d.D) (hnm:d.e.size<=60) (sm:d.B.size<=2000) (ur:0<=d.E) (qr:d.E<=5) (ZP:dD d.H d.f=true) (hna:d.f<=200) (hnl:d.b<=200)
  (hlk:∀k,k<d.b->(d.D k).e.size<=60/\0<=(d.D k).L/\(d.D k).L<=400) (ZR:∀k,k<=d.b->(ef d.D k).length<=101*k) (hlen:l.length+1300000<=140737488355328) :
  Calls Pg 142 #[.pointer (T (Q b 0 Y)),ZH #[U d.e,N I d.m,N I d.E,U d.B,Z a0 d.f p,Z a1 d.b g]] w λe w'=>e=ZF (.tuple #[])/\Bw w' c.heap.size b (l++mZ d)/\Below c.heap.size c w'/\Kp b w w':=by
 have H:=ae h;have HB:=ae hb;have HP:=ae hP;have HT:=ae hT;have At:=ae ld;have HI:=ae hI;have HL:=ae hL;have Bk:=ae ZP;have ph:=ae hlk;have ro:=ae ZR;have hs:=hb.size;have aq:=hT.1;have hblt:=h.lt.2;have L:=uu ZP;have mv:=ae L;clear h hb hP hT ld hI hL ZP hlk ZR L;obtain⟨m,hm⟩:∃m:Nat,d.E=(m:Int):=⟨d.E.toNat,by omega⟩
 have hm5:m<=5:=by omega
 have hd:=gX m (by omega);have hq:=cF d.e;have DH:=ep d.B.data.toList;rw[cF] at DH;have ZO:=ae ((q9 w).alloc ly (J #[U d.e,N I d.m,N I d.E,U d.B,Z a0 d.f p,Z a1 d.b g] 46));have x:=ae (kH w (U d.e) (N I d.m) (N I d.E) (U d.B) (Z a0 d.f p) (Z a1 d.b g));have ZL:=ae (H.aa ZO ly);have R:=ae (HB.trans (ZO.mono hs));have K0:Hid (Kp b w (w.alloc (J #[U d.e,N I d.m,N I d.E,U d.B,Z a0 d.f p,Z a1 d.b g] 46))):=bM ZO;have P:Hid (joined [⟨#[116,97,114,103,101,116]⟩,d.e,⟨(Lib.decDigits m).toArray⟩,⟨(aF d.B.data.toList).toArray⟩]=eF d):=by show _=_;rw[yk];unfold eF;rw[hm];simp
 have hhl:(eF d).length<=6200:=by rw[<-P.out,yk];simp only[cM,eL,nX];omega
 rw[hm] at ZO x ZL R K0 ⊢;clear ZO H HB ur qr;go_enter func142,ntmps142;go_wp2_with fail;have q:w.heap.size≠b:=by omega
 generalize w.alloc (J #[U d.e,N I d.m,N I (m:Int),U d.B,Z a0 d.f p,Z a1 d.b g] 46)=W at x ZL R K0 ⊢;generalize w.heap.size=F at x q ⊢;have hz:=x.lt;go_cut [18] (λ_ wx=>Hid (Bw wx c.heap.size b (l++eF d++[10]))/\Hid (Below c.heap.size c wx)/\Hid (Kp b W wx));case first =>
  have IT:=ae (λV (X:Below W.heap.size W V)=>pk m V (by omega) ((HP.aa R ly).aa X ly));have QT:=ae (λV=>nr d.B V sm);have ZQ:=ae (λV (S:Kp b W V)=>(show A V (Q F 0 Y)=T (U d.e)/\A V (Q F 2 Y)=T (N I (m:Int))/\A V (Q F 3 Y)=T (U d.B) from⟨(x.kp S q).cells.1,(x.kp S q).cells.2.2.1,(x.kp S q).cells.2.2.2.1⟩));go_region_held3 (λV=>A V (Q F 0 Y)=T (U d.e)/\A V (Q F 2 Y)=T (N I (m:Int))/\A V (Q F 3 Y)=T (U d.B)) (first|exact ZQ _ (RZ _ _ _)|exact ZQ _ (RZ _ _ _).drew|exact ZQ _ (bM B1)|exact ZQ _ (bM K)|exact ZQ _ ((bM K).alloc _)|exact ZQ _ ZM)
   (first
   |(go_at_call 55;refine(IT _ ?_).mono ?_;(first|exact dB _ _|exact br.drew);rintro e G ⟨rfl,t⟩;have B1:Hid (Below W.heap.size W G):=⟨t.os,t.tape,t.output,t.size,t.block⟩;clear t)
   |(go_at_call 141;refine(QT _).mono ?_;rintro e O ⟨rfl,r⟩;have K:Hid (Below W.heap.size W O):=B1.trans (Below.mono (⟨r.os,r.tape,r.output,r.size,r.block⟩:Below G.heap.size G O) B1.size);clear r)
   |(go_at_call 79;refine(Kk c W O b l _ _ _ _ _ R K ZL (by rw[P.out];omega)).mono ?_;rintro e w3 ⟨rfl,f,ZS,B⟩;rw[P.out] at f;have D3:=ae f;have B3:=ae ZS;have ZM:=ae B;clear f ZS B))
  all_goals
   go_simp;go_wp2_with fail;go_meet;exact⟨D3,B3,ZM⟩
 case rest =>
 obtain⟨D1,R1,K1⟩:=hcut;obtain⟨G,th⟩:∃G,G=wc:=⟨_,rfl⟩
 subst th;have X1:=ae (x.kp K1 q);obtain⟨c0,c1,c2,c3,c4,c5⟩:=X1.cells;go_wp2;clear c0 c1 c2 c3 c4 c5 ZL R;go_loopw [23] (λi wr=>∃k:Nat,k<=d.f/\i=N I k/\Hid (Bw wr c.heap.size b (l++eF d++[10]++ft d.H k))/\Hid (Below c.heap.size c wr)/\Hid (Kp b W wr)) (λi _=>d.f - (intOf i).toNat);case atStart=>exact⟨0,by omega,rfl,by show Bw _ _ _ _;simpa[ft] using D1.out,R1,K1⟩
 case round =>
  obtain⟨k,S,rfl,HD,ZN,HK⟩:=hrel;have hdl:=mv.out k S;by_cases bt:k<d.f
  ·obtain⟨ib,io,rfl,o⟩:=HI.resolve_left (by omega);obtain⟨i0,i1,i2⟩:=(o.aa ZN ly).2 k bt;have D:=gR Bk.out bt;have DE:=ae D;have hdt:=Bb D;have ZK:Hid (joined [⟨#[100,111]⟩,⟨(aR (d.H k).op (d.H k).s.data.toList (d.H k).n).toArray⟩]=doT (d.H k)):=by show _=_;rw[lC];unfold doT;simp
   have hlt2:(k:Int)<d.f:=by omega
   have y:=ae ((q9 wr).alloc ly (J #[N I (d.H k).op,U (d.H k).s,N I (d.H k).n] 151));have RI:=ae (ZN.trans (y.mono ZN.size));clear o D;go_wp2_with fail;clear i0 i1 i2;refine(uT _ _ _ _ DE (HT.aa RI aq) (At.aa RI aq) (HP.aa RI ly)).mono ?_;rintro e O ⟨rfl,X⟩;have K:=ae (y.trans (X.mono y.size));clear X y RI;go_wp2_with fail;refine(zP c wr O b _ _ _ _ ZN K HD (by rw[ZK.out];simp only[cM,eL,nX];omega)).mono ?_;rintro e w3 ⟨rfl,f,ZS,B⟩;rw[ZK.out] at f;have D3:=ae f;have B3:=ae ZS;have ZM:=ae (HK.trans B);clear f ZS B;go_wp2;exact⟨⟨k+1,by omega,by go_num,by show Bw _ _ _ _;rw[ft];simpa using D3.out,B3,ZM⟩,by simp[intOf];omega⟩
  ·obtain rfl:k=d.f:=by omega
   have X2:=ae (x.kp HK q);obtain⟨c0,c1,c2,c3,c4,c5⟩:=X2.cells;go_wp2;clear c0 c1 c2 c3 c4 c5;obtain⟨w4,n9⟩:∃w4,w4=wr:=⟨_,rfl⟩
   subst n9;go_loopw [36] (λi wr=>∃k:Nat,k<=d.b/\i=N I k/\Hid (Bw wr c.heap.size b (l++eF d++[10]++ft d.H d.f++ef d.D k))/\Hid (Below c.heap.size c wr)/\Hid (Kp b W wr)) (λi _=>d.b - (intOf i).toNat);case atStart=>exact⟨0,by omega,rfl,by show Bw _ _ _ _;simpa[ef] using HD.out,ZN,HK⟩
   case round =>
    obtain⟨j,hj,rfl,fd,E,la⟩:=hrel;have ZR:=ro.out j hj;by_cases dg:j<d.b
    ·obtain⟨lb,lo,rfl,o⟩:=HL.resolve_left (by omega);obtain⟨i0,i1,i2,i3⟩:=(o.aa E ly).2 j dg;obtain⟨q1,q2,q3⟩:=ph.out j dg;have hlj2:(j:Int)<d.b:=by omega
     have y:=ae ((q9 wr).alloc ly (J #[U (d.D j).e,.bool (d.D j).ask,.bool (d.D j).has,N I (d.D j).L] 91));have RI:=ae (E.trans (y.mono E.size));have DI:=ae (fd.aa y ly);have KI:=ae (la.trans (bM y));clear o;go_wp2_with fail;clear i0 i1 i2 i3;refine(EX c b _ (d.D j) _ RI DI HP q1 q2 q3 (by simp only[cM,eL,nX];omega)).mono ?_;rintro e w6 ⟨rfl,u,z,C⟩;have D6:=ae u;have B6:=ae z;have K6:=ae (KI.trans C);clear u z C;go_wp2;exact⟨⟨j+1,by omega,by go_num,by show Bw _ _ _ _;rw[ef];simpa using D6.out,B6,K6⟩,by simp[intOf];omega⟩
    ·obtain rfl:j=d.b:=by omega
     have ZJ:Hid (joined [⟨#[101,110,100]⟩]=[101,110,100]):=by show _=_;rw[Hv]
     go_wp2_with fail;refine(Kj c wr wr b _ _ _ E br fd (by rw[ZJ.out];simp only[cM,eL,nX];omega)).mono ?_;rintro e w6 ⟨rfl,u,z,C⟩;rw[ZJ.out] at u;have D6:=ae u;have B6:=ae z;have K6:=ae (K0.trans (la.trans C));clear u z C;go_wp2;go_end0;exact⟨rfl,by unfold mZ;simpa using D6.out,B6,K6⟩
structure jX (w0:M)(a0 a1:Option Addr)(d:Deed):Prop where
 ins:SlIns w0 a0 d.f d.H
 V:SlLink w0 a1 d.b d.D
 nm:d.e.size<=60
 tx:d.B.size<=2000
 kd:d.m=1∨d.m=2∨d.m=3/\0<=d.E/\d.E<=5/\dD d.H d.f=true/\d.f<=200/\d.b<=200/\(∀k,k<d.b->(d.D k).e.size<=60/\0<=(d.D k).L/\(d.D k).L<=400)/\(∀k,k<=d.b->(ef d.D k).length<=101*k)
theorem EY{f:Nat->Deed}{n p:Nat}{c:M}{a0 a1:Option Addr}(h:de f n=true)(j:p<n)(i:SlIns c a0 (f p).f (f p).H)(hL:SlLink c a1 (f p).b (f p).D):jX c a0 a1 (f p):=by
 obtain⟨h1,h2,h3⟩:=lV h p j;have hn:=fT h;refine⟨i,hL,h1,h2,?_⟩;rcases h3 with h3|h3|⟨b,c1,c2,c3,c4,c5,g⟩
 {exact .inl h3};{exact .inr (.inl h3)};{refine .inr (.inr ⟨b,c1,c2,c3,c4,c5,λk b=>?_,sj g (by omega)⟩);obtain⟨m,l,q3⟩:=iU (fS g k b);exact⟨m,l,by omega⟩}
theorem EZ (c:M)(b:Nat)(l:List UInt8)(d:Deed)(a0:Option Addr)(g:Nat)(a1:Option Addr)(f:Nat)(w:M)(hb:Below c.heap.size c w)(h:Bw w c.heap.size b l)(ZQ:Tab c)(x:TabW c)(ZP:Pow c)
  (s:jX c a0 a1 d) (j:d.m=1) (hlen:l.length+1300000<=140737488355328) :
  Calls Pg 80 #[.pointer (T (Q b 0 Y)),ZH #[U d.e,N I d.m,N I d.E,U d.B,Z a0 d.f g,Z a1 d.b f]] w λe B=>e=ZF (.tuple #[])/\Bw B c.heap.size b (l++dJ d)/\Below c.heap.size c B/\Kp b w B:=by
 have H:=ae h;have L:=ae hb;have HP:=ae ZP;have HT:=ae ZQ;have HTW:=ae x;have HW:=ae s;have P:=hb.size;have hblt:=h.lt.2;have hq:=cF d.e;have K:=ep d.B.data.toList;rw[cF] at K;have hnm:=s.nm;have G:=s.tx;clear h hb ZP ZQ x s;have r:=ae ((q9 w).alloc ly (J #[U d.e,N I d.m,N I d.E,U d.B,Z a0 d.f g,Z a1 d.b f] 46));have m:=ae (kH w (U d.e) (N I d.m) (N I d.E) (U d.B) (Z a0 d.f g) (Z a1 d.b f));have ZS:=ae (H.aa r ly);have C:=ae (L.trans (r.mono P));have z:Hid (Kp b w (w.alloc (J #[U d.e,N I d.m,N I d.E,U d.B,Z a0 d.f g,Z a1 d.b f] 46))):=bM r;have n:w.heap.size≠b:=by omega
 clear r H L;have D:Hid (joined [⟨#[115,111,117,114,99,101]⟩,d.e,⟨(aF d.B.data.toList).toArray⟩]=iG d):=by show _=_;rw[jI];unfold iG;simp
 have hjl:(iG d).length<=6200:=by rw[<-D.out,jI];simp only[cM,eL,nX];omega
 have ZO:Hid (dJ d=iG d++[10]):=by show _=_;unfold dJ;rw[p6 j]
 rw[ZO.out];rw[j] at m ZS C z ⊢;clear j;go_enter func80,ntmps80;go_wp2_with fail;generalize w.alloc (J #[U d.e,N I 1,N I d.E,U d.B,Z a0 d.f g,Z a1 d.b f] 46)=W at m ZS C z ⊢;generalize w.heap.size=q at m n ⊢;have ZN:=ae (λV=>nr d.B V G);have p:=ae (λV (j:Kp b W V)=>(show A V (Q q 0 Y)=T (U d.e)/\A V (Q q 3 Y)=T (U d.B) from⟨(m.kp j n).cells.1,(m.kp j n).cells.2.2.2.1⟩));go_region_held3 (λV=>A V (Q q 0 Y)=T (U d.e)/\A V (Q q 3 Y)=T (U d.B)) (first|exact p _ (RZ _ _ _)|exact p _ (RZ _ _ _).drew|exact p _ (bM y)|exact p _ ((bM y).alloc _)|exact p _ E)
  (first
  |(go_at_call 141;refine(ZN _).mono ?_;rintro e F ⟨rfl,i⟩;have y:Hid (Below W.heap.size W F):=⟨i.os,i.tape,i.output,i.size,i.block⟩;clear i)
  |(go_at_call 79;refine(zQ c W F b l _ _ _ _ C y ZS (by rw[D.out];omega)).mono ?_;rintro e w3 ⟨rfl,o,t,u⟩;rw[D.out] at o;have O:=ae o;have ZR:=ae t;have E:=ae u;clear o t u))
 all_goals
  go_simp;go_wp2;go_end0;exact⟨rfl,by simpa using O.out,ZR,z.trans E⟩
theorem Cf (c:M)(b:Nat)(l:List UInt8)(d:Deed)(a0:Option Addr)(g:Nat)(a1:Option Addr)(f:Nat)(w:M)(hb:Below c.heap.size c w)(h:Bw w c.heap.size b l)(ZS:Tab c)(q:TabW c)(B:Pow c)
  (n:jX c a0 a1 d) (y:d.m=2) (hlen:l.length+1300000<=140737488355328) :
  Calls Pg 80 #[.pointer (T (Q b 0 Y)),ZH #[U d.e,N I d.m,N I d.E,U d.B,Z a0 d.f g,Z a1 d.b f]] w λe t=>e=ZF (.tuple #[])/\Bw t c.heap.size b (l++dJ d)/\Below c.heap.size c t/\Kp b w t:=by
 have H:=ae h;have D:=ae hb;have HP:=ae B;have HT:=ae ZS;have HTW:=ae q;have HW:=ae n;have ZQ:=hb.size;have hblt:=h.lt.2;have hq:=cF d.e;have C:=ep d.B.data.toList;rw[cF] at C;have hnm:=n.nm;have htx:=n.tx;clear h hb B ZS q n;have m:=ae ((q9 w).alloc ly (J #[U d.e,N I d.m,N I d.E,U d.B,Z a0 d.f g,Z a1 d.b f] 46));have i:=ae (kH w (U d.e) (N I d.m) (N I d.E) (U d.B) (Z a0 d.f g) (Z a1 d.b f));have s:=ae (H.aa m ly);have u:=ae (D.trans (m.mono ZQ));have r:Hid (Kp b w (w.alloc (J #[U d.e,N I d.m,N I d.E,U d.B,Z a0 d.f g,Z a1 d.b f] 46))):=bM m;have z:w.heap.size≠b:=by omega
 clear m H D;have x:Hid (joined [⟨#[110,111,110,101]⟩,d.e]=fU d):=by show _=_;rw[lC];unfold fU;simp
 have hjl:(fU d).length<=6200:=by rw[<-x.out,lC];simp only[cM,eL,nX];omega
 have F:Hid (dJ d=fU d++[10]):=by show _=_;unfold dJ;rw[gM (by omega),p6 y]
 rw[F.out];rw[y] at i s u r ⊢;clear y;go_enter func80,ntmps80;go_upto_region 5 with fail;generalize w.alloc (J #[U d.e,N I 2,N I d.E,U d.B,Z a0 d.f g,Z a1 d.b f] 46)=W at i s u r ⊢;generalize w.heap.size=gd at i z ⊢;obtain⟨x0,x1,x2,x3,x4,x5⟩:=i.cells;have hz:=i.lt;go_wp2_with fail;refine(zP c W W b l _ _ _ u br s (by rw[x.out];omega)).mono ?_;rintro e w3 ⟨rfl,j,o,p⟩;rw[x.out] at j;have G:=ae j;have E:=ae o;have ZP:=ae p;clear j o p;go_wp2;go_end0;exact⟨rfl,by simpa using G.out,E,r.trans ZP⟩
theorem E7 (f:M)(b:Nat)(l:List UInt8)(d:Deed)(a0:Option Addr)(c:Nat)(a1:Option Addr)(g:Nat)(w:M)(hb:Below f.heap.size f w)(h:Bw w f.heap.size b l)(ZP:Tab f)(p:TabW f)(C:Pow f)
  (i:jX f a0 a1 d) (F:d.m=3) (r:l.length+1300000<=140737488355328) :
  Calls Pg 80 #[.pointer (T (Q b 0 Y)),ZH #[U d.e,N I d.m,N I d.E,U d.B,Z a0 d.f c,Z a1 d.b g]] w λe q=>e=ZF (.tuple #[])/\Bw q f.heap.size b (l++dJ d)/\Below f.heap.size f q/\Kp b w q:=by
 have H:=ae h;have G:=ae hb;have ZR:=ae C;have P:=ae ZP;have ZS:=ae p;have s:=ae i;have ZN:=hb.size;have hblt:=h.lt.2;have hq:=cF d.e;have D:=ep d.B.data.toList;rw[cF] at D;have K:=i.nm;have ZQ:=i.tx;clear h hb C ZP p i;have j:=ae ((q9 w).alloc ly (J #[U d.e,N I d.m,N I d.E,U d.B,Z a0 d.f c,Z a1 d.b g] 46));have y:=ae (kH w (U d.e) (N I d.m) (N I d.E) (U d.B) (Z a0 d.f c) (Z a1 d.b g));have z:=ae (H.aa j ly);have B:=ae (G.trans (j.mono ZN));have t:Hid (Kp b w (w.alloc (J #[U d.e,N I d.m,N I d.E,U d.B,Z a0 d.f c,Z a1 d.b g] 46))):=bM j;have hgd:w.heap.size≠b:=by omega
 clear j H G;obtain⟨c1,c2,c3,c4,c5,x,u⟩:=s.kd.resolve_left (by omega) |>.resolve_left (by omega) |>.2;have ZO:Hid (dJ d=mZ d):=by show _=_;unfold dJ;rw[gM (by omega),gM (by omega)]
 have E:=ae (λV hb h=>Hw f b l d a0 c a1 g V hb h P ZS ZR s.ins s.V K ZQ c1 c2 c3 c4 c5 x u r);rw[ZO.out];rw[F] at y z B t E ⊢;clear F c1 c2 c3 c4 c5 x u;obtain⟨x0,x1,x2,x3,x4,x5⟩:=y.cells;go_enter func80,ntmps80;go_wp2_with fail;refine(E _ B z).mono ?_;rintro e w3 ⟨rfl,o,m,n⟩;have O:=ae o;have L:=ae m;have R:=ae (t.trans n);clear o m n;go_wp2;go_end0;exact⟨rfl,O,L,R⟩
theorem E9 (c:M)(b:Nat)(l:List UInt8)(d:Deed)(a0:Option Addr)(g:Nat)(a1:Option Addr)(f:Nat)(w:M)(hb:Below c.heap.size c w)(h:Bw w c.heap.size b l)(q:Tab c)(m:TabW c)(o:Pow c)
  (n:jX c a0 a1 d) (i:l.length+1300000<=140737488355328) :
  Calls Pg 80 #[.pointer (T (Q b 0 Y)),ZH #[U d.e,N I d.m,N I d.E,U d.B,Z a0 d.f g,Z a1 d.b f]] w λe p=>e=ZF (.tuple #[])/\Bw p c.heap.size b (l++dJ d)/\Below c.heap.size c p/\Kp b w p:=by
 rcases n.kd with j|j|j;{exact EZ c b l d a0 g a1 f w hb h q m o n j i};{exact Cf c b l d a0 g a1 f w hb h q m o n j i};{exact E7 c b l d a0 g a1 f w hb h q m o n j.1 i}
