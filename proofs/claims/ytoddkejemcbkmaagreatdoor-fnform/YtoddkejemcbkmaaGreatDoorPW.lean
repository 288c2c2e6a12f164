import Derived.Test.YtoddkejemcbkmaaGreatDoorQX
import Derived.Test.YtoddkejemcbkmaaGreatDoorQG
import Derived.Test.YtoddkejemcbkmaaGreatDoorRN
set_option maxRecDepth 100000
set_option maxHeartbeats 4000000
set_option linter.unusedSimpArgs false
open Go renaming Addr.mk->Q,Value.slice->Z,Value.string->U,Value.int->J,Value.bool->ZD,Obj.cells->N,IntKind.i64->I,World->M,Value->ZC,TypeId->ZH,Ending.returned->ZF,World.alloc->A,Proofs.Tryz.prog->Pg
open Option renaming none->Y,some->T
open Bool renaming false->ZA,true->ZG
namespace Go.Proofs.YtoddkejemcbkmaaGreatDoor.Vp
open RowKit Go.Shelf Ca
attribute [local go_sem] QU
def dD:List (List UInt8)->List (List UInt8 × Bool)
 |[]=>[]
 |[l]=>if l=[] then [] else [(l,ZA)]
 |l::b::ls=>(l,ZG)::dD (b::ls)
theorem vh:∀b:List (List UInt8),(dD b).map (·.1)=tL b
 |[]=>rfl
 |[l]=>by
  by_cases h:l=[]
  ·subst h;rfl
  ·simp[dD,tL,h]
 |l::c::b=>by show l::(dD (c::b)).map (·.1)=_;rw[vh (c::b)];rfl
theorem Ck {l:List UInt8}{b:List (List UInt8)}(h:b≠[]):dD (l::b)=(l,ZG)::dD b:=by obtain⟨l',ls',rfl⟩:=RP h;rfl
def pcB (x:List UInt8 × Bool):List UInt8:=if x.2=ZG then x.1++[10] else x.1
theorem Fo {s:List UInt8}(h:s≠[]):∃x t,dD (aL s)=x::dD (aL t)/\t.length<s.length/\((af 10 s).2.2=ZG/\x=((af 10 s).1,ZG)/\t=(af 10 s).2.1∨(af 10 s).2.2=ZA/\x=(s,ZA)/\t=[]):=by
 cases hc:(af 10 s).2.2 with
 |true =>refine⟨((af 10 s).1,ZG),(af 10 s).2.1,?_,rp hc,.inl ⟨rfl,rfl,rfl⟩⟩;rw[lH s,p7 hc,Ck (zR _)]
 |false =>
  refine⟨(s,ZA),[],?_,by have:=IB.2 h;simpa using this,.inr ⟨rfl,rfl,rfl⟩⟩;rw[lH s,nD (by rw[hc];simp)];show(if s=[] then [] else [(s,ZA)])=[(s,ZA)]
  rw[nD h]
theorem Fp (s:ByteArray)(w:M)(b:Nat):CallsIn Fence.wide b Pg 55 #[U s] w λe c=>e=ZF (.func (.func 100) #[] #[.pointer (T (Q w.heap.size 0 Y))])/\c=A w (N #[U s] 9):=by refine UB Tryz.func55 rfl trivial ?_ rfl;simp only[Tryz.ntmps55,CX,eT,nX,Nat.reduceAdd,Nat.reduceSub,N5,N9,PF,OD,MH,IS];gi_wp2;go_ret;exact⟨rfl,rfl⟩
def SBxR (w:M)(bx:Nat)(s:List UInt8):Prop:=w.heap[bx]?=T (N #[U ⟨s.toArray⟩] 9 (0,0))
theorem SBxR.lt {w:M}{b:Nat}{s:List UInt8}(h:SBxR w b s):b<w.heap.size:=(gM.1 h).1
theorem SBxR.c0 {w:M}{b:Nat}{s:List UInt8}(h:SBxR w b s):w.cell? (Q b 0 Y)=T (U ⟨s.toArray⟩):=by rw[IA h];rfl
theorem SBxR.fz {w:M}{b:Nat}{s:List UInt8}(h:SBxR w b s):w.frozen? (Q b 0 Y)=ZA:=MW h 0
theorem SBxR.set {w:M}{b:Nat}{s:List UInt8}(h:SBxR w b s)(t:List UInt8):SBxR (w.setCell (Q b 0 Y) (U ⟨t.toArray⟩)) b t:=by unfold SBxR at *;simp[World.setCell,CV,h]
theorem Cl (S:List UInt8)(hS:(S.length:Int)<=1000000)(bx R:Nat)(w:M)(hb:SBxR w bx S):Hl bx Fence.wide R Pg 100 #[.pointer (T (Q bx 0 Y))] (λx:List UInt8 × Bool=>#[U ⟨(pcB x).toArray⟩]) (λb x=>b++[x] <+: dD (aL S)) (λxs=>xs=dD (aL S)) (λb=>b <+: dD (aL S)) w:=by
 intro l ZO Jx W P hJ ZP hY h0;have ZM:=ae hJ;have HJx:=ae ZP;have HY:=ae hY;have H0:=ae h0;have hbl:bx<W.heap.size:=lj hb.lt P.size;have B0:Hid (SBxR W bx S):=(P.block bx hb.lt).trans hb;clear hJ ZP hY h0 hb P;refine UB Tryz.func100 rfl trivial ?_ rfl;simp only[Tryz.ntmps100,CX,eT,nX,Nat.reduceAdd,Nat.reduceSub,N5,N9,PF,OD,MH,IS];gi_wp2;gi_loopw [3,4] (λ_ _ wr=>∃(rest:List UInt8) (b:List (List UInt8 × Bool)),(rest.length:Int)<=1000000/\Hid (SBxR wr bx rest)/\Hid (b++dD (aL rest)=dD (aL S))/\Hid (ZO b wr)/\W.heap.size<=wr.heap.size) (λ_ _ wr=>match wr.cell? (Q bx 0 Y) with|some (U s)=>s.size|_=>0);case atStart=>exact⟨S,[],hS,B0.out,rfl,H0.out,n8 _⟩
 case round =>
  obtain⟨rest,b,hr,E,ZL,C,hz⟩:=hrel;have c0:=E.out.c0;have C0:=ae c0;have f0:=E.out.fz;by_cases y:rest=[]
  {subst y;gi_wp2;go_end0;refine⟨⟨_,rfl⟩,.inl ⟨b,?_,C.out⟩⟩;have:=ZL.out;rw[show dD (aL [])=[] from rfl,UJ] at this;exact this}
  ·have hpos:0<(rest.length:Int):=by have:=IB.2 y;omega
   obtain⟨x,t,ZQ,L,hx⟩:=Fo y;have q:Hid (∀V,CallsIn Fence.wide (R - 1) Pg 101 #[U ⟨rest.toArray⟩,J .u8 10] V λe w'=>e=ZF (J I (Lib.indexByte rest 10))/\w'=V):=λV=>TP.2 (Tryz.strings_IndexByte ⟨rest.toArray⟩ 10 V);have B:b++[x] <+: dD (aL S):=⟨dD (aL t),by rw[<-ZL.out,ZQ];simp⟩
   have K:Hid (b++[x]++dD (aL t)=dD (aL S)):=by show _=_;rw[<-ZL.out,ZQ];simp
   have D:=ae B;have tl:(t.length:Int)<=1000000:=by omega
   have G:Hid (∀V,ZO b V->W.heap.size<=V.heap.size->YieldAt Fence.wide (R - 1) Pg l #[U ⟨(pcB x).toArray⟩] V λe H=>(e=ZF (ZD ZG)/\ZO (b++[x]) H/\H.heap[bx]?=V.heap[bx]?/\V.heap.size<=H.heap.size)∨(e=ZF (ZD ZA)/\Jx (b++[x]) H)):=λV h1 h2=>HY.out b x V D.out h1 h2;rcases tT 10 rest with ⟨hi,c⟩|⟨i,hi,hil,c⟩
   ·rcases hx with ⟨h1,_⟩|⟨_,rfl,rfl⟩
    {rw[c] at h1;cases h1};have p:=ae (ZM.out _ _ _ C.out (Itx.setCell (n:=W.heap.size) wr 0 (U ⟨#[]⟩)));have r:Hid (SBxR (wr.setCell (Q bx 0 Y) (U ⟨#[]⟩)) bx []):=E.out.set [];rw[hi] at q;clear c hi B;gi_wp2_with fail;refine⟨trivial,λh=>(by cases h),(q.out _).mono ?_⟩;rintro e V ⟨rfl,u⟩;rw[u];clear u q;obtain⟨fn,tmps,assign,body,F,hR⟩:=G.out _ p.out (by simp;omega);rw[show pcB (rest,ZA)=rest from rfl] at F;have X:=ae hR;clear hR G;gi_wp2;refine⟨λh=>(by cases h),X.out.mono ?_⟩;rintro e ZR (⟨rfl,g,f,o⟩|⟨rfl,j⟩)
    ·have O:=ae g;have m:Hid (SBxR ZR bx []):=f.trans r.out;have z3:W.heap.size<=ZR.heap.size:=by simp at o;omega
     have c3:=m.out.c0;clear g f o r p F;gi_wp2;exact⟨⟨[],_,tl,m.out,K.out,O.out,z3⟩,by rw[C0.out,m.out.c0];exact L⟩
    ·have ZK:=ae j;clear j;gi_wp2;try simp only[Exit.inBlock,Exit.then]
     refine Hm rfl rfl ?_;exact⟨⟨_,rfl⟩,.inr ⟨_,D.out,ZK.out⟩⟩
   ·rcases hx with ⟨_,rfl,rfl⟩|⟨h1,_⟩
    case inr=>rw[c] at h1;cases h1
    have il:(i:Int)<(rest.length:Int):=by omega
    have ZJ:(af 10 rest).1++[10]=rest.take (i+1):=by
     have h2:=(fg 10 rest).2;rw[c] at h2 ⊢;rw[p7 rfl] at h2;have h3:rest[i]?=T 10:=by have:=AP (λz=>z[i]?) h2;simp only at this;rw[this,I5 (by rw[MO];omega),MO,PI (by omega),Nat.sub_self];rfl
     rw[RC,h3];rfl
    have e2:(af 10 rest).2.1=rest.drop (i+1):=by rw[c]
    have s1:(⟨rest.toArray⟩:ByteArray).extract 0 (i+1)=⟨(pcB ((af 10 rest).1,ZG)).toArray⟩:=by rw[show pcB ((af 10 rest).1,ZG)=(af 10 rest).1++[10] from rfl,ZJ];refine MP (PE ?_);simp
    have s2:(⟨rest.toArray⟩:ByteArray).extract (i+1) rest.length=⟨(af 10 rest).2.1.toArray⟩:=by rw[e2];refine MP (PE ?_);simp only[NR,OQ,NN];rw[KK (by simp)]
    have J1:=ae (ZM.out _ _ _ C.out (Itx.setCell (n:=W.heap.size) wr 0 (U ⟨(af 10 rest).2.1.toArray⟩)));have ZI:Hid (SBxR (wr.setCell (Q bx 0 Y) (U ⟨(af 10 rest).2.1.toArray⟩)) bx (af 10 rest).2.1):=E.out.set _;have ZN:=(eL (wr.setCell (Q bx 0 Y) (U ⟨(af 10 rest).2.1.toArray⟩)).heap.size (wr.setCell (Q bx 0 Y) (U ⟨(af 10 rest).2.1.toArray⟩))).drew;have p:=ae (ZM.out _ _ _ J1.out (Itx.u ZN ly));have r:Hid (SBxR (wr.setCell (Q bx 0 Y) (U ⟨(af 10 rest).2.1.toArray⟩)).drew bx (af 10 rest).2.1):=(ZN.block bx (by simp;omega)).trans ZI.out;have z2:W.heap.size<=(wr.setCell (Q bx 0 Y) (U ⟨(af 10 rest).2.1.toArray⟩)).drew.heap.size:=by simp;omega
    rw[hi] at q;clear c hi B ZJ e2 ZN J1 ZI;gi_wp2_with fail;refine⟨trivial,λh=>(by cases h),(q.out _).mono ?_⟩;rintro e V ⟨rfl,u⟩;rw[u];clear u q;gi_upto_region 4 with fail;have b1:(i:Int)+1<=(rest.length:Int):=by omega
    have b2:(0:Int)<=(i:Int)+1:=by omega
    have b3:((i:Int)+1).toNat=i+1:=by omega
    have b4:IntKind.i64.wrap ((i:Int)+1)=(i:Int)+1:=by rw[wA];omega
    have b5:i+1<=rest.length:=by omega
    gi_region_with fail;all_goals
     generalize (wr.setCell (Q bx 0 Y) (U ⟨(af 10 rest).2.1.toArray⟩)).drew=V2 at p r z2 ⊢;obtain⟨fn,tmps,assign,body,F,hR⟩:=G.out _ p.out z2;have X:=ae hR;clear hR G;gi_wp2;refine⟨λh=>(by cases h),X.out.mono ?_⟩;rintro e ZR (⟨rfl,g,f,o⟩|⟨rfl,j⟩)
     ·have O:=ae g
      have m:Hid (SBxR ZR bx (af 10 rest).2.1):=f.trans r.out;have z3:W.heap.size<=ZR.heap.size:=by omega
      have c3:=m.out.c0;clear g f o r p F;gi_wp2;exact⟨⟨_,_,tl,m.out,K.out,O.out,z3⟩,by rw[C0.out,m.out.c0];exact L⟩
     ·have ZK:=ae j
      clear j;gi_wp2;try simp only[Exit.inBlock,Exit.then]
      refine Hm rfl rfl ?_;exact⟨⟨_,rfl⟩,.inr ⟨_,D.out,ZK.out⟩⟩
theorem Cm {L:Nat}(h:¬ (300000:Int)<(L:Int)):L<=300000:=by omega
theorem ij (a:Option Addr)(n cap:Nat)(f:Nat->Deed)(w:M)(hn:(n:Int)<=1048576)(hv:SlDeed w a n f)(la:(n:Int)<=cap)(u:∀i,i<n->dk (f i))(q:Tab w)(V:TabW w)(hP:Pow w):Calls Pg 6 #[.agg #[Z a n cap]] w λe w'=>e=ZF (U ⟨(cL f n).toArray⟩)/\Below w.heap.size w w':=by
 have HV:=ae hv;have HM:=ae u;have G:=ae q;have aq:=ae V;have HP:=ae hP;have X:=q.1;clear hv u q V hP;have t:=ae ((q9 w).alloc ly (N #[Z a n cap] 25));have k0:(A w (N #[Z a n cap] 25)).cell? (Q w.heap.size 0 Y)=T (Z a n cap):=by simp
 have hz:w.heap.size<(A w (N #[Z a n cap] 25)).heap.size:=by simp
 obtain⟨ZL,q⟩:∃ZL,ZL=cL f n:=⟨_,rfl⟩
 rw[<-q];have F:=ae (show ZL=if dc f n=ZG then (if (aN f n n).length<=300000 then aN f n n else []) else [] from q);clear q;go_enter Tryz.func6,Tryz.ntmps6;go_wp2_with fail;generalize A w (N #[Z a n cap] 25)=W at t k0 hz ⊢;refine(oN a n cap f _ hn (HV.out.aa t.out ly) la HM.out (G.out.aa t.out G.out.1)).mono ?_;rintro e c ⟨rfl,s⟩;have g:=ae (t.out.trans (s.mono t.out.size));have k1:=(s.cell (p:=(Q w.heap.size 0 Y)) hz).trans k0;have ZR:w.heap.size<c.heap.size:=lj hz s.size;clear s t k0 hz;have HO:=ae (λh:dc f n=ZG=>(⟨fN h,h⟩:(1<=n/\n<=400/\aM (be f) n=-1)/\dc f n=ZG));obtain⟨r,hr⟩:∃r,r=dc f n:=⟨_,rfl⟩
 rw[<-hr] at F ⊢;have ZN:=ae hr;clear hr;cases r with
 |false =>
  obtain rfl:ZL=[]:=by have:=F.out;simpa using this
  go_wp2;go_ret;exact⟨rfl,g.out⟩
 |true =>
  have HF:=ae (show ZL=if (aN f n n).length<=300000 then aN f n n else [] by have:=F.out;simpa using this);obtain⟨⟨hn1,hn4,-⟩,o⟩:=HO.out ZN.out.symm;have n9:=ae o;have P:=ae (rB o);clear F HO HM o ZN;obtain⟨b,off,rfl,y⟩:=HV.out.resolve_left (by omega);have H:=ae (y.aa g.out ly);have th:=ae (G.out.aa g.out X);have qr:=ae (aq.out.aa g.out X);have ZI:=ae (HP.out.aa g.out ly);clear HV y G aq HP;have hd:=gR n (by omega);have B:=ae ((q9 c).alloc ly (N #[.pointer Y,Z Y 0 0] 54));have x:=ae (Bw.new c);have kw:=(B.out.cell (p:=(Q w.heap.size 0 Y)) ZR).trans k1;have S:Hid (joined [⟨#[97,99,99,111,117,110,116]⟩,⟨(Lib.decDigits n).toArray⟩]++[10]=aN f n 0):=by show _=_;rw[kZ];simp[aN]
  have ro:(joined [⟨#[97,99,99,111,117,110,116]⟩,⟨(Lib.decDigits n).toArray⟩]).length<=40:=by rw[kZ];simp only[cM,eT,nX];omega
  have fd:c.heap.size<(A c (N #[.pointer Y,Z Y 0 0] 54)).heap.size:=by simp
  go_upto_region 4 with fail;generalize A c (N #[.pointer Y,Z Y 0 0] 54)=W1 at B x kw fd ⊢;go_wp2_with fail;refine(oO n _ (by omega) (ZI.out.aa B.out ly)).mono ?_;rintro e w2 ⟨rfl,s⟩;have B2:=ae s;clear s;go_wp2_with fail;refine(yJ c W1 w2 c.heap.size [] _ _ _ B.out B2.out x.out (by simp only[nX];omega)).mono ?_;rintro e w3 ⟨rfl,C,K,sm⟩;rw[MH,S.out] at C;have D3:=ae C;have B3:=ae K;clear C K sm S ro B2 x B kw fd;have k3:=(B3.out.cell (p:=(Q w.heap.size 0 Y)) ZR).trans k1;have hz3:w.heap.size<w3.heap.size:=lj ZR B3.out.size;go_wp2;clear k3;go_loopw [18] (λi wr=>∃k:Nat,k<=n/\i=J I k/\Hid ((aN f n k).length<=300000∨k=0)/\Hid (Bw wr c.heap.size c.heap.size (aN f n k))/\Hid (Below c.heap.size c wr)) (λi _=>n - (intOf i).toNat);case atStart=>exact⟨0,by omega,rfl,.inr rfl,D3.out,B3.out⟩
  case round =>
   obtain⟨k,hk,rfl,HS,HD,m⟩:=hrel;have hlk:=P.out k hk;have RW:=ae (g.out.trans (m.out.mono g.out.size));by_cases z:k<n
   ·have hlt2:(k:Int)<n:=by omega
    obtain⟨o0,o1,o2,o3,⟨a0,ph,o4,q4⟩,⟨a1,ld,o5,q5⟩⟩:=(H.out.aa m.out ly).2 k z;obtain⟨-,-,-,-,⟨D,j,ZK,O⟩,⟨E,l,bt,R⟩⟩:=H.out.2 k z;have e4:=((m.out.cell (p:=(Q b (off+k*6+4) Y)) H.out.1).trans ZK).symm.trans o4;have e5:=((m.out.cell (p:=(Q b (off+k*6+5) Y)) H.out.1).trans bt).symm.trans o5;obtain⟨rfl,rfl⟩:D=a0/\j=ph:=by simpa using e4
    obtain⟨rfl,rfl⟩:E=a1/\l=ld:=by simpa using e5
    have WR:=ae (DK n9.out z O R);have AD:=ae ((q9 wr).alloc ly (N #[U (f k).e,J I (f k).E,J I (f k).B,U (f k).h,Z D (f k).f j,Z E (f k).b l] 62));have RD:=ae (m.out.trans (AD.out.mono m.out.size));have DD:=ae (HD.out.aa AD.out ly);clear q4 q5 O R ZK bt e4 e5;go_wp2_with fail;clear o0 o1 o2 o3 o4 o5;refine(DU c c.heap.size _ (f k) D j E l _ RD.out DD.out th.out qr.out ZI.out WR.out (by omega)).mono ?_;rintro e w5 ⟨rfl,L,ZP,Bk⟩;have D5:Hid (Bw w5 c.heap.size c.heap.size (aN f n (k+1))):=L;have B5:=ae ZP;have At:=P.out (k+1) (by omega);clear L ZP Bk AD RD DD;go_wp2_with fail;refine(DG _ _ _ _ D5.out).mono ?_;rintro e w6 ⟨rfl,rfl⟩;generalize ZJ:(aN f n (k+1)).length=L5 at At ⊢;have ZM:=ae ZJ;clear ZJ;by_cases mv:(300000:Int)<(L5:Int)
    ·obtain rfl:ZL=[]:=by
      have h2:=nR (f:=f) (n:=n) (show k+1<=n by omega);rw[ZM.out] at h2;have h3:¬ (aN f n n).length<=300000:=by generalize (aN f n n).length=ZQ at h2 ⊢;omega
      rw[HF.out,nD h3]
     go_wp2;go_ret;exact⟨rfl,g.out.trans (B5.out.mono g.out.size)⟩
    ·have dg:L5<=300000:=Cm mv;have ur:Hid ((aN f n (k+1)).length<=300000∨k+1=0):=by show _∨_;rw[ZM.out];exact Or.inl dg
     clear dg;go_wp2;exact⟨⟨k+1,by omega,by go_num,ur.out,D5.out,B5.out⟩,by simp[intOf];omega⟩
   ·obtain rfl:k=n:=by omega
    obtain rfl:ZL=aN f k k:=by have h1:(aN f k k).length<=300000:=HS.out.resolve_right (by omega);rw[HF.out,p7 h1]
    go_wp2_with fail;refine(vU _ _ _ _ HD.out (zY _ _ _)).mono ?_;rintro e w6 ⟨rfl,ZO⟩;have B6:=ae (m.out.trans ZO);clear ZO;go_wp2;go_ret;exact⟨rfl,g.out.trans (B6.out.mono g.out.size)⟩
attribute [local go_sem] QU
theorem qi:∀(n:Nat) (s:List UInt8),s.length<=n->(∀l∈aL s,(10:UInt8) ∉ l/\l.length<=s.length)/\(aL s).length<=s.length+1:=by
 intro n;induction n with
 |zero =>
  intro s g;obtain rfl:s=[]:=NL.1 (by omega);refine⟨λl b=>?_,by simp[aL]⟩;have:l=[]:=by simpa[aL] using b
  rw[this];simp
 |succ n h =>
  intro s g;rw[lH s];obtain⟨h1,h2⟩:=fg 10 s;have h3:=aS 10 s;by_cases c:(af 10 s).2.2=ZG;{rw[p7 c];have h4:=rp c;obtain⟨f,h6⟩:=h (af 10 s).2.1 (by omega);refine⟨λl b=>?_,by simp only[eT];omega⟩;rcases A9.1 b with rfl|b;{exact⟨h1,h3.1⟩};{exact⟨(f l b).1,by have:=(f l b).2;omega⟩}};{rw[nD c] at h2 ⊢;refine⟨λl b=>?_,by simp⟩;rw[nL.1 b];exact⟨by rw[h2];exact h1,n8 _⟩}
theorem vi:∀{b:List (List UInt8)} {x:List UInt8 × Bool},x∈dD b->x.1∈b
 |[],x,h=>by simp[dD] at h
 |[l],x,h=>by
  by_cases c:l=[]
  ·subst c;simp[dD] at h
  ·simp[dD,c] at h;subst h;simp
 |l::f::b,x,h=>by
  rcases A9.1 (show x∈(l,ZG)::dD (f::b) from h) with rfl|h
  ·simp
  ·exact mq _ (vi h)
theorem vj:∀b:List (List UInt8),(dD b).length<=b.length
 |[]=>n8 _
 |[l]=>by
  by_cases c:l=[]
  ·subst c;simp[dD]
  ·simp[dD,c]
 |l::f::b=>by have:=vj (f::b);show((l,ZG)::dD (f::b)).length<=_;simp only[eT] at this ⊢;omega
theorem Hi {x:List UInt8 × Bool}(h:(10:UInt8) ∉ x.1):Lib.trimSuffix (pcB x) [10]=x.1:=by
 obtain⟨l,b⟩:=x;cases b with
 |true =>show Lib.trimSuffix (l++[10]) [10]=l;simp[Lib.trimSuffix,Lib.hasSuffix]
 |false =>
  show Lib.trimSuffix l [10]=l;unfold Lib.trimSuffix Lib.hasSuffix;split;{rename_i c;exfalso;refine h ?_;show(10:UInt8)∈l;simp at c;exact c.subset (by simp)};{rfl}
structure FmB (W:M)(h:Nat)(S:List UInt8):Prop where
 size:W.heap.size=h+4
 p:W.heap[h]?=T (N #[Z Y 0 0] 25 (0,0))
 q:W.heap[h+1]?=T (N #[.nilIface] 69 (0,0))
 r:RdB W (h+2) (Z Y 0 0)
 s:SBxR W (h+3) S
theorem Fq (w:M)(s:ByteArray):FmB ((((A w (N #[Z Y 0 0] 25)).alloc (N #[.nilIface] 69)).alloc (N #[Z Y 0 0] 105)).alloc (N #[U s] 9)) w.heap.size s.data.toList:=by
 have n1:(A w (N #[Z Y 0 0] 25)).heap.size=w.heap.size+1:=by simp
 have c:((A w (N #[Z Y 0 0] 25)).alloc (N #[.nilIface] 69)).heap.size=w.heap.size+2:=by simp
 have b:(((A w (N #[Z Y 0 0] 25)).alloc (N #[.nilIface] 69)).alloc (N #[Z Y 0 0] 105)).heap.size=w.heap.size+3:=by simp
 have f:=n6 w (N #[Z Y 0 0] 25);have h1:=n6 (A w (N #[Z Y 0 0] 25)) (N #[.nilIface] 69);have h2:=n6 ((A w (N #[Z Y 0 0] 25)).alloc (N #[.nilIface] 69)) (N #[Z Y 0 0] 105);have h3:=n6 (((A w (N #[Z Y 0 0] 25)).alloc (N #[.nilIface] 69)).alloc (N #[Z Y 0 0] 105)) (N #[U s] 9);rw[n1] at h1;rw[c] at h2;rw[b] at h3;refine⟨by simp,?_,?_,?_,h3⟩;{rw[OP _ _ (by rw[b];omega),OP _ _ (by rw[c];omega),OP _ _ (by rw[n1];omega)];exact f};{rw[OP _ _ (by rw[b];omega),OP _ _ (by rw[c];omega)];exact h1};{show _=_;rw[OP _ _ (by rw[b];omega)];exact h2}
theorem RSt.itx {w j:M}{b f bx n:Nat}{v:ZC}{R:List DR}(h:RSt w b f v R)(hi:Itx bx n w j)(hb:b<n)(hx:bx<f)(g:b≠bx):RSt j b f v R:=by
 have i:∀k,Of3 w k->k<w.heap.size/\ik w k:=λk h3=>by rcases h3 with ⟨c,z,h3⟩|⟨c,z,h3⟩|⟨c,z,h3⟩<;>exact⟨(gM.1 h3).1,_,_,_,h3⟩
 refine⟨(hi.keep b h.H.lt g (.inl hb)).trans h.H,h.row.ab λk l hbk=>?_,h.lt,p9 h.le hi.size⟩;obtain⟨h1,h2⟩:=i k l;exact hi.keep k h1 (by omega) (.inr h2)
theorem sj {bx n m:Nat}{w b:M}(h:Itx bx n w b)(hm:m<=n)(hx:m<=bx)(hz:m<=w.heap.size):Below m w b:=⟨h.os,h.tape,h.output,h.size,λk hk=>h.keep k (by omega) (by omega) (.inl (by omega))⟩
theorem eE {w:M}{k:Nat}{v:ZC}{t:ZH}(h:w.heap[k]?=T (N #[v] t (0,0))):w.cell? (Q k 0 Y)=T v/\w.frozen? (Q k 0 Y)=ZA:=⟨by rw[IA h];rfl,MW h 0⟩
theorem ss {w:M}{h:Nat}{a b:ZC}{t u:ZH}(h1:w.heap[h]?=T (N #[a] t (0,0)))(h2:w.heap[h+1]?=T (N #[b] u (0,0)))(v c:ZC):((w.setCell (Q h 0 Y) v).setCell (Q (h+1) 0 Y) c).heap[h]?=T (N #[v] t (0,0))/\((w.setCell (Q h 0 Y) v).setCell (Q (h+1) 0 Y) c).heap[h+1]?=T (N #[c] u (0,0)):=by
 refine⟨?_,?_⟩;{rw[qh _ _ _ _ (by show h≠h+1;omega)];simp[World.setCell,CV,h1]};{have e:(w.setCell (Q h 0 Y) v).heap[h+1]?=T (N #[b] u (0,0)):=(qh _ _ _ _ (by show h+1≠h;omega)).trans h2;generalize w.setCell (Q h 0 Y) v=V at e ⊢;simp[World.setCell,CV,e]}
end Go.Proofs.YtoddkejemcbkmaaGreatDoor.Vp
namespace Go.Proofs.YtoddkejemcbkmaaGreatDoor.Ca
open RowKit Vp
theorem Bdx.set {bx:Nat}{w b:M}(h:Bdx bx w b){p:Addr}(f:p.block≠bx)(g:ik w p.block)(v:ZC):Bdx bx w (b.setCell p v) :=
 ⟨by simpa[World.setCell] using h.size,(qh _ _ _ _ (λe=>f e.symm)).trans h.H,λk c hn=>(qh _ _ _ _ (λe=>hn (by rw[show k=p.block from e];exact g))).trans (h.keep k c hn)⟩
end Go.Proofs.YtoddkejemcbkmaaGreatDoor.Ca
namespace Go.Proofs.YtoddkejemcbkmaaGreatDoor.Vp
open RowKit Go.Shelf Ca
attribute [local go_sem] QU
theorem KR.bdx2 {b f bx:Nat}{w i:M}(h:KR b f w i)(m:bx≠b)(n:bx<w.heap.size)(j:bx<f)(hb:ik w b):Bdx bx w i :=
 ⟨h.size,h.keep bx n m (.inl j),λk l g=>h.keep k l (λe=>g (e ▸ hb)) (.inr λh3=>g (by
  rcases h3 with ⟨c,z,h3⟩|⟨c,z,h3⟩|⟨c,z,h3⟩<;>exact⟨_,_,_,h3⟩))⟩
theorem vl (s:ByteArray)(w:M)(hs:s.size<=300000)(hL:Lay w)(i:EV w 2):Calls Pg 31 #[U s] w λe L=>Below w.heap.size w L/\((∃a c R,e=ZF (.tuple #[.agg #[Z a R.length c],.nilIface])/\DRow L (w.heap.size+4) (Z a R.length c) R/\SzD 300001 (R.map (·.1))/\∀E,bC [] (tL (aL s.data.toList)) E->R.map (·.1)=E)∨((∀E,¬ bC [] (tL (aL s.data.toList)) E)/\∃ty p,e=ZF (.tuple #[.agg #[Z Y 0 0],.iface ty p]))):=by
 refine(TP (n:=3)).1 ?_;have L0:=ae hL;have E0:=ae i;have dg:=((((q9 w).alloc ly (N #[Z Y 0 0] 25)).alloc (by simp) (N #[.nilIface] 69)).alloc (by simp;omega) (N #[Z Y 0 0] 105)).alloc (by simp;omega) (N #[U s] 9);have A0:=ae dg;clear dg;have B:=ae (Fq w s);obtain⟨S,hS⟩:∃S,S=s.data.toList:=⟨_,rfl⟩
 have hSl:S.length<=300000:=by rw[hS,aH];exact hs
 rw[<-hS] at B ⊢;clear hS;have LA:=ae (qi S.length S ly);obtain⟨ZM,ZQ⟩:∃ZM,ZM=dD (aL S):=⟨_,rfl⟩
 have QM:Hid (∀x∈ZM,(10:UInt8) ∉ x.1/\x.1.length<=300000):=λx hx=>by rw[ZQ] at hx;have:=LA.out.1 _ (vi hx);exact⟨this.1,by omega⟩
 have QL:ZM.length<=300001:=by have h1:=vj (aL S);have h2:=LA.out.2;rw[ZQ];omega
 have QF:Hid (ZM.map (·.1)=tL (aL S)):=by show _=_;rw[ZQ,vh]
 rw[<-QF.out];have HQ:=ae ZQ;clear ZQ LA QF;clear hL i;refine callsIn_of_wp_marks Tryz.func31 rfl trivial ?_ rfl;simp only[Tryz.ntmps31,CX,eT,nX,Nat.reduceAdd,Nat.reduceSub,N5,N9,PF,OD,MH,IS];gi_wp2_with (refine⟨trivial,?_⟩;gi_at_call 55;refine(Fp _ _ _).mono ?_;rintro e L ⟨rfl,rfl⟩);generalize (((A w (N #[Z Y 0 0] 25)).alloc (N #[.nilIface] 69)).alloc (N #[Z Y 0 0] 105)).alloc (N #[U s] 9)=W at A0 B ⊢;have hsz:=B.out.size;have SQ:=ae (Cl S (by omega) (w.heap.size+3) (3 - 1) W B.out.s);rw[<-HQ.out] at SQ;refine oy (bx:=w.heap.size+3) (F:=Fence.wide) rfl (by omega) (gf:=100) (lb:=#[.pointer (T (Q (w.heap.size+3) 0 Y))]) rfl trivial (enters_of Tryz.func100 (by kernel_rfl) rfl) (by omega) SQ.out br (λ_=>rfl)
  (λf u=>∃a c R,Hid (RSt u (w.heap.size+2) (w.heap.size+4) (Z a R.length c) R)/\Hid (SzD f.length (R.map (·.1)))/\Hid (∀t E,f++t=ZM->bC [] (ZM.map (·.1)) E->bC (R.map (·.1)) (t.map (·.1)) E)/\Hid (u.heap[w.heap.size]?=T (N #[Z Y 0 0] 25 (0,0))/\u.heap[w.heap.size+1]?=T (N #[.nilIface] 69 (0,0)))/\Hid (Below w.heap.size w u))
  (λc f u=>c=.ret/\∃ty p,Hid (u.heap[w.heap.size]?=T (N #[Z Y 0 0] 25 (0,0))/\u.heap[w.heap.size+1]?=T (N #[.iface ty p] 69 (0,0)))/\Hid (∀E,¬ bC [] (ZM.map (·.1)) E)/\Hid (Below w.heap.size w u))
  (λf ZR C h o=>by
   obtain⟨a,c,R,h1,h2,h3,h4,h5⟩:=h;have l1:=(gM.1 h4.out.1).1;have l2:=(gM.1 h4.out.2).1
   exact⟨a,c,R,h1.out.itx o (by omega) (by omega) (by omega),h2,h3,⟨(o.keep _ l1 (by omega) (.inl (by omega))).trans h4.out.1,(o.keep _ l2 (by omega) (.inl (by omega))).trans h4.out.2⟩,h5.out.trans (sj o (by omega) (by omega) h5.out.size)⟩)
  (λc f ZR C h o=>by
   obtain⟨h0,ty,p,h1,h2,h3⟩:=h;have l1:=(gM.1 h1.out.1).1;have l2:=(gM.1 h1.out.2).1
   exact⟨h0,ty,p,⟨(o.keep _ l1 (by omega) (.inl (by omega))).trans h1.out.1,(o.keep _ l2 (by omega) (.inl (by omega))).trans h1.out.2⟩,h2,h3.out.trans (sj o (by omega) (by omega) h3.out.size)⟩)
  ⟨Y,0,[],⟨B.out.r,dN _ _,by omega,by omega⟩,SzD.nil _,λt E ZO i=>by rw[MH] at ZO;rw[ZO];exact i,⟨B.out.p,B.out.q⟩,A0.out⟩
  (λx=>{ tmps:=#[U s,undef,.pointer (T (Q w.heap.size 0 Y)),.pointer (T (Q (w.heap.size+1) 0 Y)),.pointer (T (Q (w.heap.size+1+1) 0 Y)),U ⟨(pcB x).toArray⟩,undef,U s,.func (.func 100) #[] #[.pointer (T (Q (w.heap.size+3) 0 Y))],U ⟨(pcB x).toArray⟩,undef,undef,undef,undef,undef,undef,undef,undef,undef],defers:=[] }) ?assign ?body ?done ?stop
 case assign =>intro l x W K b;gi_wp2;exact b
 case body =>
  rintro l f x y j ⟨a,c,R,hR,hZ,P,g,m⟩ hz;have j:f++[x] <+: ZM:=j;have ZI:=QM.out x (j.subset (by simp));have la:=j.length_le;rw[cM,DW] at la;have ld:=ae j;have hpb:(pcB x).length<=300001:=by
   unfold pcB;split;{rw[cM,DW];omega};{omega}
  have TS:Hid (∀V,CallsIn Fence.wide 0 Pg 57 #[U ⟨(pcB x).toArray⟩,U ⟨#[10]⟩] V λe L=>e=ZF (U ⟨x.1.toArray⟩)/\L=V):=λV=>by have h:=Tryz.strings_TrimSuffix ⟨(pcB x).toArray⟩ ⟨#[10]⟩ V (by show(pcB x).toArray.size<=_;rw[CX];omega);rw[show Lib.trimSuffix (⟨(pcB x).toArray⟩:ByteArray).data.toList (⟨#[10]⟩:ByteArray).data.toList=x.1 from Hi ZI.1] at h;exact TP.2 h
  have RL:=ae (uK (w.heap.size+2) (w.heap.size+4) f.length a c R ⟨x.1.toArray⟩ y hR.out hZ.out (by omega) (by show x.1.length<=300000;exact ZI.2) (L0.out.aa m.out ly) (E0.out.aa m.out E0.out.1));clear j;gi_wp2_with fail;refine⟨trivial,((TS.out _).inRound l).mono ?_⟩;rintro e V ⟨rfl,hV⟩;rw[hV];clear hV TS;gi_wp2_with fail;refine⟨trivial,((TP.2 RL.out).inRound l).mono ?_⟩;rintro e W2 ⟨b,hN⟩;have K2:=ae b;have H:Hid (W2.heap[w.heap.size]?=T (N #[Z Y 0 0] 25 (0,0))/\W2.heap[w.heap.size+1]?=T (N #[.nilIface] 69 (0,0))):=⟨(b.keep _ (by omega) (by omega) (.inl (by omega))).trans g.out.1,(b.keep _ (by omega) (by omega) (.inl (by omega))).trans g.out.2⟩
  have X2:Hid (Bdx (w.heap.size+3) y W2):=b.bdx2 (by omega) (by omega) (by omega) ⟨_,_,_,hR.out.H⟩;have B2:=ae (m.out.trans (b.aa (n:=w.heap.size) (by omega) (by omega) m.out.size));have z2:=b.size;clear b RL;rcases hN with ⟨a',c',R',rfl,aq,bt,fd⟩|⟨ZP,ty,p,rfl⟩
  {have R2:=ae aq;have Z2:=ae bt;have G2:=ae (show ∀G,Good (R.map (·.1)) x.1 G->R'.map (·.1)=G from fd);clear aq bt fd;gi_wp2;refine⟨X2.out,a',c',R',R2.out,by rw[cM];exact Z2.out,λt E ZO i=>?_,H.out,B2.out⟩;have h1:=P.out (x::t) E (by rw[<-ZO];simp) i;obtain⟨G,h2,h3⟩:=h1;rw[G2.out G h2];exact h3}
  ·have ZP:∀G,¬ Good (R.map (·.1)) x.1 G:=ZP;have NO:Hid (∀E,¬ bC [] (ZM.map (·.1)) E):=λE i=>by obtain⟨t,ZO⟩:=ld.out;obtain⟨G,h2,_⟩:=P.out (x::t) E (by rw[<-ZO];simp) i;exact ZP G h2
   clear ZP;have ca:=(eE H.out.1).1;have fa:=(eE H.out.1).2;have cb:=(eE H.out.2).1;have fb:=(eE H.out.2).2;have ZN:=ae (ss H.out.1 H.out.2 (Z Y 0 0) (.iface ty p));have X3:=ae ((X2.out.set (p:=(Q w.heap.size 0 Y)) (by show w.heap.size≠w.heap.size+3;omega) ⟨_,_,_,g.out.1⟩ (Z Y 0 0)).set (p:=(Q (w.heap.size+1) 0 Y)) (by show w.heap.size+1≠w.heap.size+3;omega) ⟨_,_,_,g.out.2⟩ (.iface ty p));have ZJ:=ae ((B2.out.setCell (p:=(Q w.heap.size 0 Y)) ly (Z Y 0 0)).setCell (p:=(Q (w.heap.size+1) 0 Y)) (F3 _) (.iface ty p));gi_wp2;exact⟨X3.out,rfl,ty,p,ZN.out,NO.out,ZJ.out⟩
 case done =>rintro ZK ys y ZL rfl ⟨a,c,R,hR,hZ,P,g,m⟩ b;have ca:=(eE g.out.1).1;have fa:=(eE g.out.1).2;have cb:=(eE g.out.2).1;have fb:=(eE g.out.2).2;have cr:=hR.out.H.c0;have ZN:=ae (ss g.out.1 g.out.2 (Z a R.length c) .nilIface);have ZJ:=ae ((m.out.setCell (p:=(Q w.heap.size 0 Y)) ly (Z a R.length c)).setCell (p:=(Q (w.heap.size+1) 0 Y)) (F3 _) .nilIface);have D3:=ae ((hR.out.row.set (p:=(Q w.heap.size 0 Y)) (e:=0) (.inl (by show w.heap.size<w.heap.size+4;omega)) (Z a R.length c)).set (p:=(Q (w.heap.size+1) 0 Y)) (e:=0) (.inl (by show w.heap.size+1<w.heap.size+4;omega)) .nilIface);have X:=ae ((KeepsOthers.setCell (y.setCell (Q w.heap.size 0 Y) (Z a R.length c)) (Q (w.heap.size+1) 0 Y) .nilIface).same ZK _ ((KeepsOthers.setCell y (Q w.heap.size 0 Y) (Z a R.length c)).same ZK _ b rfl) rfl);have zz:W.heap.size<=ZK:=ZL;gi_wp2;generalize (y.setCell (Q w.heap.size 0 Y) (Z a R.length c)).setCell (Q (w.heap.size+1) 0 Y) .nilIface=V3 at ZN ZJ D3 X ⊢;refine⟨by simp,.inl ⟨_,_,rfl,run_takeDeferred X.out,?_⟩⟩;have D:=cY (n:=W.heap.size) V3 ZL (gM.1 X.out).1 (.deferred Y);have c1:=(D.cell (p:=(Q w.heap.size 0 Y)) (by show w.heap.size<W.heap.size;omega)).trans (eE ZN.out.1).1;have c2:=(D.cell (p:=(Q (w.heap.size+1) 0 Y)) (by show w.heap.size+1<W.heap.size;omega)).trans (eE ZN.out.2).1;refine⟨.tuple #[.agg #[Z a R.length c],.nilIface],by simp[results,Tryz.results31,go_sem,c1,c2],ZJ.out.trans (D.mono (by omega)),.inl ⟨a,c,R,rfl,?_,hZ.out.up QL,λE i=>P.out [] E (by simp) i⟩⟩;refine D3.out.ab λk O _=>World.putObj_heap_other λe=>?_;subst e;rcases O with ⟨x,z,O⟩|⟨x,z,O⟩|⟨x,z,O⟩<;>(have:=X.out.symm.trans O;cases this)
 case stop =>rintro ZK c f y ZL hpre ⟨rfl,ty,p,g,HO,m⟩ b;gi_wp2;refine⟨by simp,.inl ⟨_,_,rfl,run_takeDeferred b,?_⟩⟩;have D:=cY (n:=W.heap.size) y ZL (gM.1 b).1 (.deferred Y);have c1:=(D.cell (p:=(Q w.heap.size 0 Y)) (by show w.heap.size<W.heap.size;omega)).trans (eE g.out.1).1;have c2:=(D.cell (p:=(Q (w.heap.size+1) 0 Y)) (by show w.heap.size+1<W.heap.size;omega)).trans (eE g.out.2).1;exact⟨.tuple #[.agg #[Z Y 0 0],.iface ty p],by simp[results,Tryz.results31,go_sem,c1,c2],m.out.trans (D.mono (by omega)),.inr ⟨HO.out,ty,p,rfl⟩⟩
def AcR (w:M)(b:Nat)(v:ZC):Prop:=w.heap[b]?=T (N #[v] 25 (0,0))
theorem AcR.lt {w:M}{b:Nat}{v:ZC}(h:AcR w b v):b<w.heap.size:=(gM.1 h).1
theorem AcR.c0 {w:M}{b:Nat}{v:ZC}(h:AcR w b v):w.cell? (Q b 0 Y)=T v:=by rw[IA h];rfl
theorem AcR.fz {w:M}{b:Nat}{v:ZC}(h:AcR w b v)(j:Nat):w.frozen? (Q b j Y)=ZA:=MW h j
theorem AcR.aa {w c:M}{b B:Nat}{v:ZC}(h:AcR w b v)(hb:Below B w c)(f:b<B):AcR c b v:=(hb.block b f).trans h
theorem AcR.set {w:M}{b:Nat}{v:ZC}(h:AcR w b v)(c:ZC):AcR (w.setCell (Q b 0 Y) c) b c:=by unfold AcR at *;simp[World.setCell,CV,h]
theorem wJ:(Pg.info? 25).map (·.size)=T 1:=by kernel_rfl
theorem fR {fn:Func}{p u:Tmp}(h:fn.results=#[.cell p 25,.tmp u])(tmps:Array ZC)(w:M)(g:Nat)(v:ZC)(c:tmps.getD p undef=.pointer (T (Q g 0 Y)))(b:AcR w g v):(results fn tmps).run Pg w=.ok (.tuple #[.agg #[v],tmps.getD u undef]) w:=by rw[results_cell_tmp h,c];simp[asAddr,run_loadVar_row w g 25 25 #[v] (0,0) _ b Tryz.underlying25 rfl wJ,Result.andThen]
def fJ (w:M)(S:List UInt8)(e:Ending)(b:M):Prop :=
 ∃(r:Option (List Deed)) (a:Option Addr) (c:Nat) (R:List DR),kG S r/\e=ZF (.tuple #[.agg #[Z a R.length c],ZD r.isSome])/\DRow b w.heap.size (Z a R.length c) R/\R.map (·.1)=r.getD []/\SzD 300001 (R.map (·.1))/\Below w.heap.size w b
theorem vm {w:M}{b size n c:Nat}{e:ZH}{a:Option Addr}{g:List ZC}(h:w.ownsRow b e size (Z a n c) n g):n<=c:=by
 rcases h.2 with ⟨f,h0⟩|⟨g',cap,cur,f,hb,hg,h1,_⟩
 ·cases f
  exact n8 _
 ·cases f
  exact h1
theorem zD (s:ByteArray)(w:M)(r:s.size<=maxLen)(hn:s.data.toList=[]∨300000<s.size):Calls Pg 8 #[U s] w λe q=>fJ w s.data.toList e q:=by
 have j:Hid (kG s.data.toList Y):=iV λf n h=>by
  rcases hn with h1|h1;{exact h1};{have:=lM h;rw[aH] at this;omega}
 have c:=ae ((q9 w).alloc ly (N #[Z Y 0 0] 25));have b:Hid (AcR (A w (N #[Z Y 0 0] 25)) w.heap.size (Z Y 0 0)):=n6 w _;unfold maxLen at r;unfold fJ;generalize g:s.data.toList=S at j hn ⊢;rcases hn with hn|hn
 ·have m:s=⟨#[]⟩:=by
   refine MP (PE ?_);rw[g,hn]
  subst m;clear g;go_enter Tryz.func8,Tryz.ntmps8;go_upto_region 1 with fail;generalize A w (N #[Z Y 0 0] 25)=W at c b ⊢;have c0:=b.out.c0;have f0:=b.out.fz 0;have o:=b.out.lt;have l:=ae (b.out.set (Z Y 0 0));have i:=ae (c.out.setCell (p:=(Q w.heap.size 0 Y)) ly (Z Y 0 0));go_wp2;try simp only[Exit.inBlock,Exit.then]
  refine bp (fR rfl _ _ w.heap.size _ rfl l.out) rfl ?_;exact⟨Y,Y,0,[],j.out,rfl,dN _ _,rfl,SzD.nil _,i.out⟩
 ·have hne:¬ s.toList=[]:=iR (by omega);have hp:300000<(s.size:Int):=by omega
  clear g;go_enter Tryz.func8,Tryz.ntmps8;go_upto_region 1 with fail;generalize A w (N #[Z Y 0 0] 25)=W at c b ⊢;have c0:=b.out.c0;have f0:=b.out.fz 0;have o:=b.out.lt;have l:=ae (b.out.set (Z Y 0 0));have i:=ae (c.out.setCell (p:=(Q w.heap.size 0 Y)) ly (Z Y 0 0));go_wp2;try simp only[Exit.inBlock,Exit.then]
  refine bp (fR rfl _ _ w.heap.size _ rfl l.out) rfl ?_;exact⟨Y,Y,0,[],j.out,rfl,dN _ _,rfl,SzD.nil _,i.out⟩
theorem wK (s:ByteArray)(w:M)(h0:0<s.size)(h3:s.size<=300000)(hL:Lay w)(O:EV w 2):Calls Pg 8 #[U s] w λe w'=>fJ w s.data.toList e w':=by
 have RF:=ae (λV (P:Below w.heap.size w V)=>vl s V h3 (hL.aa P ly) (O.aa P O.1));have D:=ae (λV (P:Below w.heap.size w V)=>hL.aa P ly);have r:=ae ((q9 w).alloc ly (N #[Z Y 0 0] 25));have G:Hid (AcR (A w (N #[Z Y 0 0] 25)) w.heap.size (Z Y 0 0)):=n6 w _;have bt:¬ s.toList=[]:=iR (by omega);have hie:s.toList.isEmpty=ZA:=by simpa using bt
 have hp:¬ 300000<(s.size:Int):=by omega
 have ZL:=ae (GC s);have C:s.data.toList≠[]:=λe=>by have:=AP List.length e;rw[aH,nX] at this;omega
 unfold fJ;generalize hS:s.data.toList=S at RF ZL C ⊢;have HS:=ae hS;clear hL O hS;go_enter Tryz.func8,Tryz.ntmps8;go_upto_region 1 with fail;generalize A w (N #[Z Y 0 0] 25)=W at r G ⊢;have L:=G.out.lt;go_wp2_with fail;refine(RF.out W r.out).mono ?_;rintro e z ⟨l,hF⟩;rcases hF with ⟨a,c,R,rfl,hD,hZ,hG⟩|⟨ZK,ty,p,rfl⟩
 ·have t:=(q9 z).alloc ly (N #[Z a R.length c] 25);have H:=ae ((hD.aa t ly).mono (show w.heap.size+1<=W.heap.size+4 by omega));have b:=ae ((r.out.trans (l.mono r.out.size)).trans (t.mono (by have:=r.out.size;have:=l.size;omega)));have j:=ae (G.out.aa (l.trans (t.mono l.size)) L);have u:Hid (AcR (A z (N #[Z a R.length c] 25)) z.heap.size (Z a R.length c)):=n6 z _;have HZ:=ae hZ;have HG:=ae hG;have hcap:=vm hD.i;have hRl:R.length<=300001:=by have:=hZ.1;simpa using this
  clear t hD hZ hG l r G;go_upto_region 4 with fail;generalize A z (N #[Z a R.length c] 25)=m at H b j u ⊢;generalize z.heap.size=b4 at u ⊢;have c4:=u.out.c0;have ZI:=u.out.lt;by_cases K:∃f n,cL f n=S
  ·obtain⟨f,n,ZM⟩:=K;have o:R.map (·.1)=nrm f n:=HG.out _ (mM ZM C);have dg:n=R.length:=by rw[<-nF f n,<-o];simp
   subst dg;have X:SlDeed m a R.length f:=by have h1:=H.out.am;rw[o] at h1;exact tM h1
   have y:=qA (f:=f) (n:=R.length) (k:=300001) (by rw[<-o];exact HZ.out) (by omega);have ZR:=ij a R.length c f m (by omega) X (by omega) (λi hi=>(y i hi).1) (D.out m b.out).tb (D.out m b.out).tw (D.out m b.out).pw;rw[ZM] at ZR;have ZQ:=ae (rG ZM C (λE O=>by rw[<-o];exact HG.out E O));have es:(⟨S.toArray⟩:ByteArray)=s:=by refine MP (PE ?_);rw[HS.out]
   rw[es] at ZR;have x:=ae ZR;have aq:=ae o;clear ZR X y ZM es o;go_wp2_with fail;refine x.out.mono ?_;rintro e w3 ⟨rfl,g⟩;have D3:=ae (H.out.aa g ly);have ZJ:=ae (b.out.trans (g.mono b.out.size));have q:=ae (j.out.aa g j.out.lt);have C3:=ae (u.out.aa g u.out.lt);clear g x c4 ZI H b j u;have c4:=C3.out.c0;have ZI:=C3.out.lt;have c0:=q.out.c0;have f0:=q.out.fz 0;have L:=q.out.lt;have ZN:=ae (q.out.set (Z a R.length c));have ZO:=ae (ZJ.out.setCell (p:=(Q w.heap.size 0 Y)) ly (Z a R.length c));have D5:=ae ((D3.out.set (p:=(Q w.heap.size 0 Y)) (e:=0) (.inl (by show w.heap.size<w.heap.size+1;omega)) (Z a R.length c)).mono (show w.heap.size<=w.heap.size+1 by omega));go_wp2;try simp only[Exit.inBlock,Exit.then]
   refine bp (fR rfl _ _ w.heap.size _ rfl ZN.out) rfl ?_;exact⟨T (nrm f R.length),a,c,R,ZQ.out,rfl,D5.out,aq.out,HZ.out,ZO.out⟩
  ·have B:∀f n,cL f n≠S:=λf n h=>K ⟨f,n,h⟩;have ZQ:Hid (kG S Y):=iV λf n h=>absurd h (B f n);have y:=Ao HZ.out (by omega);have ZR:=ij a R.length c (dF (R.map (·.1))) m (by omega) H.out.am (by omega) (λi hi=>(y i (by simpa using hi)).1) (D.out m b.out).tb (D.out m b.out).tw (D.out m b.out).pw;have ZP:=B (dF (R.map (·.1))) R.length;generalize cL (dF (R.map (·.1))) R.length=F at ZR ZP;have x:=ae ZR;have ne1:(F == S)=ZA:=by simpa using ZP
   clear ZR y K B;go_wp2_with fail;refine x.out.mono ?_;rintro e w3 ⟨rfl,g⟩;have ZJ:=ae (b.out.trans (g.mono b.out.size));have q:=ae (j.out.aa g j.out.lt);clear g x c4 ZI H b j u;have c0:=q.out.c0;have f0:=q.out.fz 0;have L:=q.out.lt;have ZN:=ae (q.out.set (Z Y 0 0));have ZO:=ae (ZJ.out.setCell (p:=(Q w.heap.size 0 Y)) ly (Z Y 0 0));have e1:¬ F=s.toList:=by rw[ZL.out];exact ZP
   have e2:(F == s.toList)=ZA:=by simpa using e1
   go_wp2;try simp only[Exit.inBlock,Exit.then]
   refine bp (fR rfl _ _ w.heap.size _ rfl ZN.out) rfl ?_;exact⟨Y,Y,0,[],ZQ.out,rfl,dN _ _,rfl,SzD.nil _,ZO.out⟩
 ·have ZQ:Hid (kG S Y):=iV λf n h=>Classical.byContradiction λhq=>ZK _ (mM h hq);have t:=l.alloc l.size (N #[Z Y 0 0] 25);have b:=ae (r.out.trans (t.mono r.out.size));have j:=ae (G.out.aa t L);clear t l r G ZK;go_upto_region 4 with fail;generalize A z (N #[Z Y 0 0] 25)=m at b j ⊢;have c0:=j.out.c0;have f0:=j.out.fz 0;have L:=j.out.lt;have ZN:=ae (j.out.set (Z Y 0 0));have ZO:=ae (b.out.setCell (p:=(Q w.heap.size 0 Y)) ly (Z Y 0 0));go_wp2;try simp only[Exit.inBlock,Exit.then]
  refine bp (fR rfl _ _ w.heap.size _ rfl ZN.out) rfl ?_;exact⟨Y,Y,0,[],ZQ.out,rfl,dN _ _,rfl,SzD.nil _,ZO.out⟩
theorem kz (s:ByteArray)(w:M)(b:s.size<=maxLen)(hL:Lay w)(c:EV w 2):Calls Pg 8 #[U s] w λe f=>fJ w s.data.toList e f:=by
 by_cases h:s.data.toList=[]∨300000<s.size;{exact zD s w b h};{refine wK s w ?_ (by omega) hL c;have h1:s.data.toList≠[]:=λe=>h (.inl e);have:=IB.2 h1;rw[aH] at this;exact this}
