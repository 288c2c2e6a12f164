import Derived.Test.YtoddkejemcbkmaaGreatDoorQE
set_option maxRecDepth 100000
set_option maxHeartbeats 8000000
open Go renaming Addr.mk->Q,Value.slice->Z,Value.string->U,Value.int->J,Obj.cells->N,IntKind.i64->I,World->M,Value->ZC,Ending.returned->ZF,World.cell?->A,Proofs.Tryz.prog->Pg
open Option renaming none->Y,some->T
namespace Go.Proofs.YtoddkejemcbkmaaGreatDoor.Vp
open Tryz RowKit
variable {g b:Nat}{w:M}{c j f i l:ZC}
theorem Ia{i:M}{f:Array ZC}{t:TypeId}{fz:Nat × Nat}(h:Kp b w i)(j:w.heap[g]?=T (N f t fz))(hb:g≠b)(l:t≠5):i.heap[g]?=T (N f t fz) :=
 h g _ j (λe=>hb (BO e)) (λc fz' e=>l (by injection e))
structure DBoxF (w:M)(g:Nat)(v0 v1 v2 v3 v4 v5:ZC):Prop where
 L:w.heap[g]?=T (N #[v0,v1,v2,v3,v4,v5] 62 (0,0))
theorem DBoxF.kp{n:M}{m:ZC}(h:DBoxF w g c m j f i l)(o:Kp b w n)(hb:g≠b):DBoxF n g c m j f i l:=⟨Ia o h.L hb (by decide)⟩
theorem DBoxF.lt{b:ZC}(h:DBoxF w g b l i c f j):g<w.heap.size:=(gM.1 h.L).1
theorem DBoxF.cells{b:ZC}(h:DBoxF w g b l i c f j):A w (Q g 0 Y)=T b/\A w (Q g 1 Y)=T l/\A w (Q g 2 Y)=T i/\A w (Q g 3 Y)=T c/\A w (Q g 4 Y)=T f/\A w (Q g 5 Y)=T j:=by refine⟨?_,?_,?_,?_,?_,?_⟩<;>(rw[IA h.L];rfl)
theorem ki (w:M)(b i f g c h:ZC):DBoxF (w.alloc (N #[b,i,f,g,c,h] 62)) w.heap.size b i f g c h:=⟨by show(w.heap.push _)[w.heap.size]?=_;simp⟩
theorem Gj (a:ByteArray):joined [a]=a.data.toList:=by simp[joined,Lib.join]
theorem Gk (c:M)(b:Nat)(l:List UInt8)(d:Deed)(a0:Option Addr)(g:Nat)(a1:Option Addr)(o:Nat)(w:M)(hb:Below c.heap.size c w)(h:Bw w c.heap.size b l)(hT:Tab c)(mv:TabW c)(hP:Pow c)
  (hI:SlIns c a0 d.f d.G) (hL:SlLink c a1 d.b d.m) (hnm:d.e.size<=60) (DE:d.h.size<=2000) (At:0<=d.B) (ur:d.B<=5) (K:dA d.G d.f=true) (hna:d.f<=200) (hnl:d.b<=200)
  (aq:∀k,k<d.b->(d.m k).e.size<=60/\0<=(d.m k).L/\(d.m k).L<=400) (L:∀k,k<=d.b->(ee d.m k).length<=101*k) (hlen:l.length+1300000<=140737488355328) :
  Calls Pg 50 #[.pointer (T (Q b 0 Y)),.agg #[U d.e,J I d.E,J I d.B,U d.h,Z a0 d.f g,Z a1 d.b o]] w λe w'=>e=ZF (.tuple #[])/\Bw w' c.heap.size b (l++mK d)/\Below c.heap.size c w'/\Kp b w w':=by
 have H:=ae h;have HB:=ae hb;have HP:=ae hP;have HT:=ae hT;have th:=ae mv;have HI:=ae hI;have HL:=ae hL;have qr:=ae K;have DH:=ae aq;have DQ:=ae L;have hs:=hb.size;have n9:=hT.1;have hblt:=h.lt.2;have ZQ:=tC K;have ph:=ae ZQ;clear h hb hP hT mv hI hL K aq L ZQ;obtain⟨m,hm⟩:∃m:Nat,d.B=(m:Int):=⟨d.B.toNat,by omega⟩
 have hm5:m<=5:=by omega
 have hd:=gR m (by omega);have hq:=cE d.e;have ro:=ep d.h.data.toList;rw[cE] at ro;have ZM:=ae ((q9 w).alloc ly (N #[U d.e,J I d.E,J I d.B,U d.h,Z a0 d.f g,Z a1 d.b o] 62));have x:=ae (ki w (U d.e) (J I d.E) (J I d.B) (U d.h) (Z a0 d.f g) (Z a1 d.b o));have ZK:=ae (H.out.aa ZM.out ly);have P:=ae (HB.out.trans (ZM.out.mono hs));have K0:Hid (Kp b w (w.alloc (N #[U d.e,J I d.E,J I d.B,U d.h,Z a0 d.f g,Z a1 d.b o] 62))):=bJ ZM.out;have R:Hid (joined [⟨#[116,97,114,103,101,116]⟩,d.e,⟨(Lib.decDigits m).toArray⟩,⟨(aJ d.h.data.toList).toArray⟩]=eB d):=by show _=_;rw[xt];unfold eB;rw[hm];simp
 have hhl:(eB d).length<=6200:=by rw[<-R.out,xt];simp only[cM,eT,nX];omega
 rw[hm] at ZM x ZK P K0 ⊢;clear ZM H HB At ur;go_enter func50,ntmps50;go_wp2_with fail;have t:w.heap.size≠b:=by omega
 generalize w.alloc (N #[U d.e,J I d.E,J I (m:Int),U d.h,Z a0 d.f g,Z a1 d.b o] 62)=W at x ZK P K0 ⊢;generalize w.heap.size=F at x t ⊢;have hz:=x.out.lt;go_cut [18] (λ_ wx=>Hid (Bw wx c.heap.size b (l++eB d++[10]))/\Hid (Below c.heap.size c wx)/\Hid (Kp b W wx));case first =>
  have IT:=ae (λV (ZJ:Below W.heap.size W V)=>oO m V (by omega) ((HP.out.aa P.out ly).aa ZJ ly));have QT:=ae (λV=>mQ d.h V DE);have ZO:=ae (λV (S:Kp b W V)=>(show A V (Q F 0 Y)=T (U d.e)/\A V (Q F 2 Y)=T (J I (m:Int))/\A V (Q F 3 Y)=T (U d.h) from⟨(x.out.kp S t).cells.1,(x.out.kp S t).cells.2.2.1,(x.out.kp S t).cells.2.2.2.1⟩));go_region_held3 (λV=>A V (Q F 0 Y)=T (U d.e)/\A V (Q F 2 Y)=T (J I (m:Int))/\A V (Q F 3 Y)=T (U d.h)) (first|exact ZO.out _ (P0 _ _ _)|exact ZO.out _ (P0 _ _ _).drew|exact ZO.out _ (bJ B1.out)|exact ZO.out _ (bJ O.out)|exact ZO.out _ ((bJ O.out).alloc _)|exact ZO.out _ X.out)
   (first
   |(go_at_call 24;refine(IT.out _ ?_).mono ?_;(first|exact eL _ _|exact br.drew);rintro e G ⟨rfl,q⟩;have B1:Hid (Below W.heap.size W G):=⟨q.os,q.tape,q.output,q.size,q.block⟩;clear q)
   |(go_at_call 49;refine(QT.out _).mono ?_;rintro e ZN ⟨rfl,r⟩;have O:Hid (Below W.heap.size W ZN):=B1.out.trans (Below.mono (⟨r.os,r.tape,r.output,r.size,r.block⟩:Below G.heap.size G ZN) B1.out.size);clear r)
   |(go_at_call 23;refine(I8 c W ZN b l _ _ _ _ _ P.out O.out ZK.out (by rw[R.out];omega)).mono ?_;rintro e w3 ⟨rfl,f,z,y⟩;rw[R.out] at f;have D3:=ae f;have B3:=ae z;have X:=ae y;clear f z y))
  all_goals
   go_simp;go_wp2_with fail;go_meet;exact⟨D3.out,B3.out,X.out⟩
 case rest =>
 obtain⟨D1,R1,K1⟩:=hcut;obtain⟨G,DS⟩:∃G,G=wc:=⟨_,rfl⟩
 subst DS;have X1:=ae (x.out.kp K1.out t);obtain⟨c0,c1,c2,c3,c4,c5⟩:=X1.out.cells;go_wp2;clear c0 c1 c2 c3 c4 c5 ZK P;go_loopw [23] (λi wr=>∃k:Nat,k<=d.f/\i=J I k/\Hid (Bw wr c.heap.size b (l++eB d++[10]++fh d.G k))/\Hid (Below c.heap.size c wr)/\Hid (Kp b W wr)) (λi _=>d.f - (intOf i).toNat);case atStart=>exact⟨0,by omega,rfl,by show Bw _ _ _ _;simpa[fh] using D1.out,R1.out,K1.out⟩
 case round =>
  obtain⟨k,S,rfl,HD,ZL,HK⟩:=hrel;have hdl:=ph.out k S;by_cases la:k<d.f
  ·obtain⟨ib,io,rfl,p⟩:=HI.out.resolve_left (by omega);obtain⟨i0,i1,i2⟩:=(p.aa ZL.out ly).2 k la;have D:=gL qr.out la;have sm:=ae D;have hdt:=zU D;have ld:Hid (joined [⟨#[100,111]⟩,⟨(aR (d.G k).op (d.G k).s.data.toList (d.G k).n).toArray⟩]=doT (d.G k)):=by show _=_;rw[kZ];unfold doT;simp
   have hlt2:(k:Int)<d.f:=by omega
   have B:=ae ((q9 wr).alloc ly (N #[J I (d.G k).op,U (d.G k).s,J I (d.G k).n] 90));have ZP:=ae (ZL.out.trans (B.out.mono ZL.out.size));clear p D;go_wp2_with fail;clear i0 i1 i2;refine(tV _ _ _ _ sm.out (HT.out.aa ZP.out n9) (th.out.aa ZP.out n9) (HP.out.aa ZP.out ly)).mono ?_;rintro e ZN ⟨rfl,ZJ⟩;have O:=ae (B.out.trans (ZJ.mono B.out.size));clear ZJ B ZP;go_wp2_with fail;refine(yJ c wr ZN b _ _ _ _ ZL.out O.out HD.out (by rw[ld.out];simp only[cM,eT,nX];omega)).mono ?_;rintro e w3 ⟨rfl,f,z,y⟩;rw[ld.out] at f;have D3:=ae f;have B3:=ae z;have X:=ae (HK.out.trans y);clear f z y;go_wp2;exact⟨⟨k+1,by omega,by go_num,by show Bw _ _ _ _;rw[fh];simpa using D3.out,B3.out,X.out⟩,by simp[intOf];omega⟩
  ·obtain rfl:k=d.f:=by omega
   have X2:=ae (x.out.kp HK.out t);obtain⟨c0,c1,c2,c3,c4,c5⟩:=X2.out.cells;go_wp2;clear c0 c1 c2 c3 c4 c5;obtain⟨w4,Bk⟩:∃w4,w4=wr:=⟨_,rfl⟩
   subst Bk;go_loopw [36] (λi wr=>∃k:Nat,k<=d.b/\i=J I k/\Hid (Bw wr c.heap.size b (l++eB d++[10]++fh d.G d.f++ee d.m k))/\Hid (Below c.heap.size c wr)/\Hid (Kp b W wr)) (λi _=>d.b - (intOf i).toNat);case atStart=>exact⟨0,by omega,rfl,by show Bw _ _ _ _;simpa[ee] using HD.out,ZL.out,HK.out⟩
   case round =>
    obtain⟨j,hj,rfl,fd,E,bt⟩:=hrel;have L:=DQ.out j hj;by_cases dg:j<d.b
    ·obtain⟨lb,lo,rfl,p⟩:=HL.out.resolve_left (by omega);obtain⟨i0,i1,i2,i3⟩:=(p.aa E.out ly).2 j dg;obtain⟨q1,q2,q3⟩:=DH.out j dg;have hlj2:(j:Int)<d.b:=by omega
     have B:=ae ((q9 wr).alloc ly (N #[U (d.m j).e,.bool (d.m j).ask,.bool (d.m j).has,J I (d.m j).L] 93));have ZP:=ae (E.out.trans (B.out.mono E.out.size));have DI:=ae (fd.out.aa B.out ly);have KI:=ae (bt.out.trans (bJ B.out));clear p;go_wp2_with fail;clear i0 i1 i2 i3;refine(DJ c b _ (d.m j) _ ZP.out DI.out HP.out q1 q2 q3 (by simp only[cM,eT,nX];omega)).mono ?_;rintro e w6 ⟨rfl,u,ZR,C⟩;have D6:=ae u;have B6:=ae ZR;have K6:=ae (KI.out.trans C);clear u ZR C;go_wp2;exact⟨⟨j+1,by omega,by go_num,by show Bw _ _ _ _;rw[ee];simpa using D6.out,B6.out,K6.out⟩,by simp[intOf];omega⟩
    ·obtain rfl:j=d.b:=by omega
     have ZI:Hid (joined [⟨#[101,110,100]⟩]=[101,110,100]):=by show _=_;rw[Gj]
     go_wp2_with fail;refine(I7 c wr wr b _ _ _ E.out br fd.out (by rw[ZI.out];simp only[cM,eT,nX];omega)).mono ?_;rintro e w6 ⟨rfl,u,ZR,C⟩;rw[ZI.out] at u;have D6:=ae u;have B6:=ae ZR;have K6:=ae (K0.out.trans (bt.out.trans C));clear u ZR C;go_wp2;go_end0;exact⟨rfl,by unfold mK;simpa using D6.out,B6.out,K6.out⟩
structure jL (w0:M)(a0 a1:Option Addr)(d:Deed):Prop where
 ins:SlIns w0 a0 d.f d.G
 V:SlLink w0 a1 d.b d.m
 nm:d.e.size<=60
 tx:d.h.size<=2000
 kd:d.E=1∨d.E=2∨d.E=3/\0<=d.B/\d.B<=5/\dA d.G d.f=true/\d.f<=200/\d.b<=200/\(∀k,k<d.b->(d.m k).e.size<=60/\0<=(d.m k).L/\(d.m k).L<=400)/\(∀k,k<=d.b->(ee d.m k).length<=101*k)
theorem DK{f:Nat->Deed}{n p:Nat}{c:M}{a0 a1:Option Addr}(h:dc f n=true)(m:p<n)(l:SlIns c a0 (f p).f (f p).G)(hL:SlLink c a1 (f p).b (f p).m):jL c a0 a1 (f p):=by
 obtain⟨h1,h2,h3⟩:=lK h p m;have hn:=fN h;refine⟨l,hL,h1,h2,?_⟩;rcases h3 with h3|h3|⟨b,c1,c2,c3,c4,c5,g⟩
 {exact .inl h3};{exact .inr (.inl h3)};{refine .inr (.inr ⟨b,c1,c2,c3,c4,c5,λk b=>?_,rA g (by omega)⟩);obtain⟨j,i,q3⟩:=iK (fM g k b);exact⟨j,i,by omega⟩}
theorem DO (g:M)(b:Nat)(l:List UInt8)(d:Deed)(a0:Option Addr)(c:Nat)(a1:Option Addr)(f:Nat)(w:M)(hb:Below g.heap.size g w)(h:Bw w g.heap.size b l)(ZO:Tab g)(x:TabW g)(L:Pow g)
  (r:jL g a0 a1 d) (j:d.E=1) (hlen:l.length+1300000<=140737488355328) :
  Calls Pg 25 #[.pointer (T (Q b 0 Y)),.agg #[U d.e,J I d.E,J I d.B,U d.h,Z a0 d.f c,Z a1 d.b f]] w λe C=>e=ZF (.tuple #[])/\Bw C g.heap.size b (l++dH d)/\Below g.heap.size g C/\Kp b w C:=by
 have H:=ae h;have E:=ae hb;have HP:=ae L;have HT:=ae ZO;have HTW:=ae x;have HW:=ae r;have ZM:=hb.size;have hblt:=h.lt.2;have hq:=cE d.e;have F:=ep d.h.data.toList;rw[cE] at F;have hnm:=r.nm;have ZP:=r.tx;clear h hb L ZO x r;have s:=ae ((q9 w).alloc ly (N #[U d.e,J I d.E,J I d.B,U d.h,Z a0 d.f c,Z a1 d.b f] 62));have o:=ae (ki w (U d.e) (J I d.E) (J I d.B) (U d.h) (Z a0 d.f c) (Z a1 d.b f));have D:=ae (H.out.aa s.out ly);have B:=ae (E.out.trans (s.out.mono ZM));have z:Hid (Kp b w (w.alloc (N #[U d.e,J I d.E,J I d.B,U d.h,Z a0 d.f c,Z a1 d.b f] 62))):=bJ s.out;have n:w.heap.size≠b:=by omega
 clear s H E;have y:Hid (joined [⟨#[115,111,117,114,99,101]⟩,d.e,⟨(aJ d.h.data.toList).toArray⟩]=ix d):=by show _=_;rw[jx];unfold ix;simp
 have hjl:(ix d).length<=6200:=by rw[<-y.out,jx];simp only[cM,eT,nX];omega
 have ZQ:Hid (dH d=ix d++[10]):=by show _=_;unfold dH;rw[p7 j]
 rw[ZQ.out];rw[j] at o D B z ⊢;clear j;go_enter func25,ntmps25;go_wp2_with fail;generalize w.alloc (N #[U d.e,J I 1,J I d.B,U d.h,Z a0 d.f c,Z a1 d.b f] 62)=W at o D B z ⊢;generalize w.heap.size=q at o n ⊢;have ZN:=ae (λV=>mQ d.h V ZP);have p:=ae (λV (j:Kp b W V)=>(show A V (Q q 0 Y)=T (U d.e)/\A V (Q q 3 Y)=T (U d.h) from⟨(o.out.kp j n).cells.1,(o.out.kp j n).cells.2.2.2.1⟩));go_region_held3 (λV=>A V (Q q 0 Y)=T (U d.e)/\A V (Q q 3 Y)=T (U d.h)) (first|exact p.out _ (P0 _ _ _)|exact p.out _ (P0 _ _ _).drew|exact p.out _ (bJ ZR.out)|exact p.out _ ((bJ ZR.out).alloc _)|exact p.out _ K.out)
  (first
  |(go_at_call 49;refine(ZN.out _).mono ?_;rintro e G ⟨rfl,i⟩;have ZR:Hid (Below W.heap.size W G):=⟨i.os,i.tape,i.output,i.size,i.block⟩;clear i)
  |(go_at_call 23;refine(yK g W G b l _ _ _ _ B.out ZR.out D.out (by rw[y.out];omega)).mono ?_;rintro e w3 ⟨rfl,m,u,t⟩;rw[y.out] at m;have O:=ae m;have P:=ae u;have K:=ae t;clear m u t))
 all_goals
  go_simp;go_wp2;go_end0;exact⟨rfl,by simpa using O.out,P.out,z.out.trans K.out⟩
theorem AH (g:M)(b:Nat)(l:List UInt8)(d:Deed)(a0:Option Addr)(c:Nat)(a1:Option Addr)(f:Nat)(w:M)(hb:Below g.heap.size g w)(h:Bw w g.heap.size b l)(C:Tab g)(q:TabW g)(D:Pow g)
  (m:jL g a0 a1 d) (y:d.E=2) (hlen:l.length+1300000<=140737488355328) :
  Calls Pg 25 #[.pointer (T (Q b 0 Y)),.agg #[U d.e,J I d.E,J I d.B,U d.h,Z a0 d.f c,Z a1 d.b f]] w λe u=>e=ZF (.tuple #[])/\Bw u g.heap.size b (l++dH d)/\Below g.heap.size g u/\Kp b w u:=by
 have H:=ae h;have z:=ae hb;have HP:=ae D;have HT:=ae C;have HTW:=ae q;have HW:=ae m;have ZO:=hb.size;have hblt:=h.lt.2;have hq:=cE d.e;have ZR:=ep d.h.data.toList;rw[cE] at ZR;have hnm:=m.nm;have htx:=m.tx;clear h hb D C q m;have n:=ae ((q9 w).alloc ly (N #[U d.e,J I d.E,J I d.B,U d.h,Z a0 d.f c,Z a1 d.b f] 62));have j:=ae (ki w (U d.e) (J I d.E) (J I d.B) (U d.h) (Z a0 d.f c) (Z a1 d.b f));have x:=ae (H.out.aa n.out ly);have t:=ae (z.out.trans (n.out.mono ZO));have s:Hid (Kp b w (w.alloc (N #[U d.e,J I d.E,J I d.B,U d.h,Z a0 d.f c,Z a1 d.b f] 62))):=bJ n.out;have B:w.heap.size≠b:=by omega
 clear n H z;have r:Hid (joined [⟨#[110,111,110,101]⟩,d.e]=fO d):=by show _=_;rw[kZ];unfold fO;simp
 have hjl:(fO d).length<=6200:=by rw[<-r.out,kZ];simp only[cM,eT,nX];omega
 have E:Hid (dH d=fO d++[10]):=by show _=_;unfold dH;rw[nD (by omega),p7 y]
 rw[E.out];rw[y] at j x t s ⊢;clear y;go_enter func25,ntmps25;go_upto_region 5 with fail;generalize w.alloc (N #[U d.e,J I 2,J I d.B,U d.h,Z a0 d.f c,Z a1 d.b f] 62)=W at j x t s ⊢;generalize w.heap.size=gd at j B ⊢;obtain⟨x0,x1,x2,x3,x4,x5⟩:=j.out.cells;have hz:=j.out.lt;go_wp2_with fail;refine(yJ g W W b l _ _ _ t.out br x.out (by rw[r.out];omega)).mono ?_;rintro e w3 ⟨rfl,i,p,o⟩;rw[r.out] at i;have F:=ae i;have ZP:=ae p;have G:=ae o;clear i p o;go_wp2;go_end0;exact⟨rfl,by simpa using F.out,ZP.out,s.out.trans G.out⟩
theorem DT (f:M)(b:Nat)(l:List UInt8)(d:Deed)(a0:Option Addr)(c:Nat)(a1:Option Addr)(g:Nat)(w:M)(hb:Below f.heap.size f w)(h:Bw w f.heap.size b l)(B:Tab f)(p:TabW f)(E:Pow f)
  (i:jL f a0 a1 d) (G:d.E=3) (r:l.length+1300000<=140737488355328) :
  Calls Pg 25 #[.pointer (T (Q b 0 Y)),.agg #[U d.e,J I d.E,J I d.B,U d.h,Z a0 d.f c,Z a1 d.b g]] w λe q=>e=ZF (.tuple #[])/\Bw q f.heap.size b (l++dH d)/\Below f.heap.size f q/\Kp b w q:=by
 have H:=ae h;have x:=ae hb;have R:=ae E;have ZQ:=ae B;have z:=ae p;have s:=ae i;have ZM:=hb.size;have hblt:=h.lt.2;have hq:=cE d.e;have y:=ep d.h.data.toList;rw[cE] at y;have t:=i.nm;have ZO:=i.tx;clear h hb E B p i;have j:=ae ((q9 w).alloc ly (N #[U d.e,J I d.E,J I d.B,U d.h,Z a0 d.f c,Z a1 d.b g] 62));have C:=ae (ki w (U d.e) (J I d.E) (J I d.B) (U d.h) (Z a0 d.f c) (Z a1 d.b g));have D:=ae (H.out.aa j.out ly);have ZR:=ae (x.out.trans (j.out.mono ZM));have F:Hid (Kp b w (w.alloc (N #[U d.e,J I d.E,J I d.B,U d.h,Z a0 d.f c,Z a1 d.b g] 62))):=bJ j.out;have hgd:w.heap.size≠b:=by omega
 clear j H x;obtain⟨c1,c2,c3,c4,c5,K,u⟩:=s.out.kd.resolve_left (by omega) |>.resolve_left (by omega) |>.2;have L:Hid (dH d=mK d):=by show _=_;unfold dH;rw[nD (by omega),nD (by omega)]
 have ZP:=ae (λV hb h=>Gk f b l d a0 c a1 g V hb h ZQ.out z.out R.out s.out.ins s.out.V t ZO c1 c2 c3 c4 c5 K u r);rw[L.out];rw[G] at C D ZR F ZP ⊢;clear G c1 c2 c3 c4 c5 K u;obtain⟨x0,x1,x2,x3,x4,x5⟩:=C.out.cells;go_enter func25,ntmps25;go_wp2_with fail;refine(ZP.out _ ZR.out D.out).mono ?_;rintro e w3 ⟨rfl,n,o,m⟩;have P:=ae n;have O:=ae o;have ZN:=ae (F.out.trans m);clear n o m;go_wp2;go_end0;exact⟨rfl,P.out,O.out,ZN.out⟩
theorem DU (c:M)(b:Nat)(l:List UInt8)(d:Deed)(a0:Option Addr)(f:Nat)(a1:Option Addr)(g:Nat)(w:M)(hb:Below c.heap.size c w)(h:Bw w c.heap.size b l)(p:Tab c)(j:TabW c)(o:Pow c)
  (n:jL c a0 a1 d) (i:l.length+1300000<=140737488355328) :
  Calls Pg 25 #[.pointer (T (Q b 0 Y)),.agg #[U d.e,J I d.E,J I d.B,U d.h,Z a0 d.f f,Z a1 d.b g]] w λe q=>e=ZF (.tuple #[])/\Bw q c.heap.size b (l++dH d)/\Below c.heap.size c q/\Kp b w q:=by
 rcases n.kd with m|m|m;{exact DO c b l d a0 f a1 g w hb h p j o n m i};{exact AH c b l d a0 f a1 g w hb h p j o n m i};{exact DT c b l d a0 f a1 g w hb h p j o n m.1 i}
