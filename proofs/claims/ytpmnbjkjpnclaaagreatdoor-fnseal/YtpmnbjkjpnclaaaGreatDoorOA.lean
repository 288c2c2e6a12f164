import Derived.Test.YtpmnbjkjpnclaaaGreatDoorQZ
import Derived.Test.YtpmnbjkjpnclaaaGreatDoorQI
import Derived.Test.YtpmnbjkjpnclaaaGreatDoorRO
set_option maxRecDepth 100000
set_option maxHeartbeats 4000000
set_option linter.unusedSimpArgs false
open Go renaming Addr.mk->Q,Value.slice->Z,Value.string->Y,Value.int->J,Value.bool->ZD,Obj.cells->N,IntKind.i64->I,World->M,Value->ZC,TypeId->ZH,Ending.returned->ZF,World.alloc->A,Proofs.Tryz.prog->Pg
open Option renaming none->U,some->T
open Bool renaming false->ZA,true->ZG
namespace Go.Proofs.YtpmnbjkjpnclaaaGreatDoor.Vp
open RowKit Go.Shelf Ca
attribute [local go_sem] TH
def dE:List (List UInt8)->List (List UInt8 × Bool)
 |[]=>[]
 |[l]=>if l=[] then [] else [(l,ZA)]
 |l::b::ls=>(l,ZG)::dE (b::ls)
theorem vX:∀b:List (List UInt8),(dE b).map (·.1)=tL b
 |[]=>rfl
 |[l]=>by
  by_cases h:l=[]
  ·subst h;rfl
  ·simp[dE,tL,h]
 |l::c::b=>by show l::(dE (c::b)).map (·.1)=_;rw[vX (c::b)];rfl
theorem Dr {l:List UInt8}{b:List (List UInt8)}(h:b≠[]):dE (l::b)=(l,ZG)::dE b:=by obtain⟨l',ls',rfl⟩:=TZ h;rfl
def pcB (x:List UInt8 × Bool):List UInt8:=if x.2=ZG then x.1++[10] else x.1
theorem Ge {s:List UInt8}(h:s≠[]):∃x t,dE (aL s)=x::dE (aL t)/\t.length<s.length/\((af 10 s).2.2=ZG/\x=((af 10 s).1,ZG)/\t=(af 10 s).2.1∨(af 10 s).2.2=ZA/\x=(s,ZA)/\t=[]):=by
 cases hc:(af 10 s).2.2 with
 |true =>refine⟨((af 10 s).1,ZG),(af 10 s).2.1,?_,rW hc,.inl ⟨rfl,rfl,rfl⟩⟩;rw[lR s,p6 hc,Dr (AO _)]
 |false =>
  refine⟨(s,ZA),[],?_,by have:=GC.2 h;simpa using this,.inr ⟨rfl,rfl,rfl⟩⟩;rw[lR s,gM (by rw[hc];simp)];show(if s=[] then [] else [(s,ZA)])=[(s,ZA)]
  rw[gM h]
theorem Gf (s:ByteArray)(w:M)(b:Nat):CallsIn Fence.wide b Pg 192 #[Y s] w λe c=>e=ZF (.func (.func 242) #[] #[.pointer (T (Q w.heap.size 0 U))])/\c=A w (N #[Y s] 9):=by refine VU Tryz.func192 rfl trivial ?_ rfl;simp only[Tryz.ntmps192,CV,eL,nX,Nat.reduceAdd,Nat.reduceSub,P7,P9,QU,QE,LN,IN];gi_wp2;go_ret;exact⟨rfl,rfl⟩
def SBxR (w:M)(bx:Nat)(s:List UInt8):Prop:=w.heap[bx]?=T (N #[Y ⟨s.toArray⟩] 9 (0,0))
theorem SBxR.lt {w:M}{b:Nat}{s:List UInt8}(h:SBxR w b s):b<w.heap.size:=(eT.1 h).1
theorem SBxR.c0 {w:M}{b:Nat}{s:List UInt8}(h:SBxR w b s):w.cell? (Q b 0 U)=T (Y ⟨s.toArray⟩):=by rw[HU h];rfl
theorem SBxR.fz {w:M}{b:Nat}{s:List UInt8}(h:SBxR w b s):w.frozen? (Q b 0 U)=ZA:=OP h 0
theorem SBxR.set {w:M}{b:Nat}{s:List UInt8}(h:SBxR w b s)(t:List UInt8):SBxR (w.setCell (Q b 0 U) (Y ⟨t.toArray⟩)) b t:=by unfold SBxR at *;simp[World.setCell,CP,h]
theorem Ds (S:List UInt8)(hS:(S.length:Int)<=1000000)(bx ZO:Nat)(w:M)(hb:SBxR w bx S):IM bx Fence.wide ZO Pg 242 #[.pointer (T (Q bx 0 U))] (λx:List UInt8 × Bool=>#[Y ⟨(pcB x).toArray⟩]) (λb x=>b++[x] <+: dE (aL S)) (λxs=>xs=dE (aL S)) (λb=>b <+: dE (aL S)) w:=by
 intro l ZN Jx W P hJ L hY h0;have X:=ae hJ;have HJx:=ae L;have HY:=ae hY;have H0:=ae h0;have hbl:bx<W.heap.size:=lj hb.lt P.size;have B0:Hid (SBxR W bx S):=(P.block bx hb.lt).trans hb;clear hJ L hY h0 hb P;refine VU Tryz.func242 rfl trivial ?_ rfl;simp only[Tryz.ntmps242,CV,eL,nX,Nat.reduceAdd,Nat.reduceSub,P7,P9,QU,QE,LN,IN];gi_wp2;gi_loopw [3,4] (λ_ _ wr=>∃(rest:List UInt8) (b:List (List UInt8 × Bool)),(rest.length:Int)<=1000000/\Hid (SBxR wr bx rest)/\Hid (b++dE (aL rest)=dE (aL S))/\Hid (ZN b wr)/\W.heap.size<=wr.heap.size) (λ_ _ wr=>match wr.cell? (Q bx 0 U) with|some (Y s)=>s.size|_=>0);case atStart=>exact⟨S,[],hS,B0,rfl,H0,n6 _⟩
 case round =>
  obtain⟨rest,b,hr,H,O,D,hz⟩:=hrel;have c0:=H.c0;have C0:=ae c0;have f0:=H.fz;by_cases y:rest=[]
  {subst y;gi_wp2;go_end0;refine⟨⟨_,rfl⟩,.inl ⟨b,?_,D⟩⟩;have:=O.out;rw[show dE (aL [])=[] from rfl,V8] at this;exact this}
  ·have hpos:0<(rest.length:Int):=by have:=GC.2 y;omega
   obtain⟨x,t,ZP,K,ZI⟩:=Ge y;have p:Hid (∀V,CallsIn Fence.wide (ZO - 1) Pg 243 #[Y ⟨rest.toArray⟩,J .u8 10] V λe w'=>e=ZF (J I (Lib.indexByte rest 10))/\w'=V):=λV=>U5.2 (Tryz.strings_IndexByte ⟨rest.toArray⟩ 10 V);have B:b++[x] <+: dE (aL S):=⟨dE (aL t),by rw[<-O.out,ZP];simp⟩
   have ZQ:Hid (b++[x]++dE (aL t)=dE (aL S)):=by show _=_;rw[<-O.out,ZP];simp
   have C:=ae B;have tl:(t.length:Int)<=1000000:=by omega
   have F:Hid (∀V,ZN b V->W.heap.size<=V.heap.size->YieldAt Fence.wide (ZO - 1) Pg l #[Y ⟨(pcB x).toArray⟩] V λe G=>(e=ZF (ZD ZG)/\ZN (b++[x]) G/\G.heap[bx]?=V.heap[bx]?/\V.heap.size<=G.heap.size)∨(e=ZF (ZD ZA)/\Jx (b++[x]) G)):=λV h1 h2=>HY b x V C h1 h2;rcases vb 10 rest with ⟨hi,c⟩|⟨i,hi,hil,c⟩
   ·rcases ZI with ⟨h1,_⟩|⟨_,rfl,rfl⟩
    {rw[c] at h1;cases h1};have q:=ae (X _ _ _ D (Itx.setCell (n:=W.heap.size) wr 0 (Y ⟨#[]⟩)));have r:Hid (SBxR (wr.setCell (Q bx 0 U) (Y ⟨#[]⟩)) bx []):=H.set [];rw[hi] at p;clear c hi B;gi_wp2_with fail;refine⟨trivial,λh=>(by cases h),(p _).mono ?_⟩;rintro e V ⟨rfl,u⟩;rw[u];clear u p;obtain⟨fn,tmps,assign,body,E,hR⟩:=F.out _ q (by simp;omega);rw[show pcB (rest,ZA)=rest from rfl] at E;have ZM:=ae hR;clear hR F;gi_wp2;refine⟨λh=>(by cases h),ZM.mono ?_⟩;rintro e ZR (⟨rfl,g,j,o⟩|⟨rfl,f⟩)
    ·have ZL:=ae g;have m:Hid (SBxR ZR bx []):=j.trans r;have z3:W.heap.size<=ZR.heap.size:=by simp at o;omega
     have c3:=m.c0;clear g j o r q E;gi_wp2;exact⟨⟨[],_,tl,m,ZQ,ZL,z3⟩,by rw[C0.out,m.c0];exact K⟩
    ·have R:=ae f;clear f;gi_wp2;try simp only[Exit.inBlock,Exit.then]
     refine IP rfl rfl ?_;exact⟨⟨_,rfl⟩,.inr ⟨_,C,R⟩⟩
   ·rcases ZI with ⟨_,rfl,rfl⟩|⟨h1,_⟩
    case inr=>rw[c] at h1;cases h1
    have il:(i:Int)<(rest.length:Int):=by omega
    have ZK:(af 10 rest).1++[10]=rest.take (i+1):=by
     have h2:=(fo 10 rest).2;rw[c] at h2 ⊢;rw[p6 rfl] at h2;have h3:rest[i]?=T 10:=by have:=wA (λz=>z[i]?) h2;simp only at this;rw[this,IX (by rw[OD];omega),OD,QW (by omega),Nat.sub_self];rfl
     rw[TV,h3];rfl
    have e2:(af 10 rest).2.1=rest.drop (i+1):=by rw[c]
    have s1:(⟨rest.toArray⟩:ByteArray).extract 0 (i+1)=⟨(pcB ((af 10 rest).1,ZG)).toArray⟩:=by rw[show pcB ((af 10 rest).1,ZG)=(af 10 rest).1++[10] from rfl,ZK];refine N5 (QS ?_);simp
    have s2:(⟨rest.toArray⟩:ByteArray).extract (i+1) rest.length=⟨(af 10 rest).2.1.toArray⟩:=by rw[e2];refine N5 (QS ?_);simp only[PH,P6,PC];rw[IU (by simp)]
    have J1:=ae (X _ _ _ D (Itx.setCell (n:=W.heap.size) wr 0 (Y ⟨(af 10 rest).2.1.toArray⟩)));have B1:Hid (SBxR (wr.setCell (Q bx 0 U) (Y ⟨(af 10 rest).2.1.toArray⟩)) bx (af 10 rest).2.1):=H.set _;have ZJ:=(dB (wr.setCell (Q bx 0 U) (Y ⟨(af 10 rest).2.1.toArray⟩)).heap.size (wr.setCell (Q bx 0 U) (Y ⟨(af 10 rest).2.1.toArray⟩))).drew;have q:=ae (X _ _ _ J1 (Itx.u ZJ ly));have r:Hid (SBxR (wr.setCell (Q bx 0 U) (Y ⟨(af 10 rest).2.1.toArray⟩)).drew bx (af 10 rest).2.1):=(ZJ.block bx (by simp;omega)).trans B1;have z2:W.heap.size<=(wr.setCell (Q bx 0 U) (Y ⟨(af 10 rest).2.1.toArray⟩)).drew.heap.size:=by simp;omega
    rw[hi] at p;clear c hi B ZK e2 ZJ J1 B1;gi_wp2_with fail;refine⟨trivial,λh=>(by cases h),(p _).mono ?_⟩;rintro e V ⟨rfl,u⟩;rw[u];clear u p;gi_upto_region 4 with fail;have b1:(i:Int)+1<=(rest.length:Int):=by omega
    have b2:(0:Int)<=(i:Int)+1:=by omega
    have b3:((i:Int)+1).toNat=i+1:=by omega
    have b4:IntKind.i64.wrap ((i:Int)+1)=(i:Int)+1:=by rw[p9];omega
    have b5:i+1<=rest.length:=by omega
    gi_region_with fail;all_goals
     generalize (wr.setCell (Q bx 0 U) (Y ⟨(af 10 rest).2.1.toArray⟩)).drew=V2 at q r z2 ⊢;obtain⟨fn,tmps,assign,body,E,hR⟩:=F.out _ q z2;have ZM:=ae hR;clear hR F;gi_wp2;refine⟨λh=>(by cases h),ZM.mono ?_⟩;rintro e ZR (⟨rfl,g,j,o⟩|⟨rfl,f⟩)
     ·have ZL:=ae g
      have m:Hid (SBxR ZR bx (af 10 rest).2.1):=j.trans r;have z3:W.heap.size<=ZR.heap.size:=by omega
      have c3:=m.c0;clear g j o r q E;gi_wp2;exact⟨⟨_,_,tl,m,ZQ,ZL,z3⟩,by rw[C0.out,m.c0];exact K⟩
     ·have R:=ae f
      clear f;gi_wp2;try simp only[Exit.inBlock,Exit.then]
      refine IP rfl rfl ?_;exact⟨⟨_,rfl⟩,.inr ⟨_,C,R⟩⟩
theorem Dt {L:Nat}(h:¬ (300000:Int)<(L:Int)):L<=300000:=by omega
theorem iu (a:Option Addr)(n cap:Nat)(f:Nat->Deed)(w:M)(hn:(n:Int)<=1048576)(hv:SlDeed w a n f)(n9:(n:Int)<=cap)(E:∀i,i<n->cV (f i))(m:Tab w)(ZM:TabW w)(hP:Pow w):Calls Pg 26 #[.agg #[Z a n cap]] w λe w'=>e=ZF (Y ⟨(bF f n).toArray⟩)/\Below w.heap.size w w':=by
 have HV:=ae hv;have HM:=ae E;have F:=ae m;have S:=ae ZM;have HP:=ae hP;have ZJ:=m.1;clear hv E m ZM hP;have t:=ae ((q9 w).alloc ly (N #[Z a n cap] 37));have k0:(A w (N #[Z a n cap] 37)).cell? (Q w.heap.size 0 U)=T (Z a n cap):=by simp
 have hz:w.heap.size<(A w (N #[Z a n cap] 37)).heap.size:=by simp
 obtain⟨ZL,m⟩:∃ZL,ZL=bF f n:=⟨_,rfl⟩
 rw[<-m];have G:=ae (show ZL=if de f n=ZG then (if (aN f n n).length<=300000 then aN f n n else []) else [] from m);clear m;go_enter Tryz.func26,Tryz.ntmps26;go_wp2_with fail;generalize A w (N #[Z a n cap] 37)=W at t k0 hz ⊢;refine(o7 a n cap f _ hn (HV.aa t ly) n9 HM (F.aa t F.1)).mono ?_;rintro e c ⟨rfl,q⟩;have g:=ae (t.trans (q.mono t.size));have k1:=(q.cell (p:=(Q w.heap.size 0 U)) hz).trans k0;have D:w.heap.size<c.heap.size:=lj hz q.size;clear q t k0 hz;have HO:=ae (λh:de f n=ZG=>(⟨fS h,h⟩:(1<=n/\n<=400/\aM (bi f) n=-1)/\de f n=ZG));obtain⟨r,hr⟩:∃r,r=de f n:=⟨_,rfl⟩
 rw[<-hr] at G ⊢;have ZN:=ae hr;clear hr;cases r with
 |false =>
  obtain rfl:ZL=[]:=by have:=G.out;simpa using this
  go_wp2;go_ret;exact⟨rfl,g⟩
 |true =>
  have HF:=ae (show ZL=if (aN f n n).length<=300000 then aN f n n else [] by have:=G.out;simpa using this);obtain⟨⟨hn1,hn4,-⟩,o⟩:=HO.out ZN.symm;have qr:=ae o;have ZI:=ae (se o);clear G HO HM o ZN;obtain⟨b,off,rfl,y⟩:=HV.resolve_left (by omega);have H:=ae (y.aa g ly);have sm:=ae (F.aa g ZJ);have ph:=ae (S.aa g ZJ);have V:=ae (HP.aa g ly);clear HV y F S HP;have hd:=gU n (by omega);have u:=ae ((q9 c).alloc ly (N #[.pointer U,Z U 0 0] 129));have ZR:=ae (Bw.new c);have kw:=(u.cell (p:=(Q w.heap.size 0 U)) D).trans k1;have L:Hid (joined [⟨#[97,99,99,111,117,110,116]⟩,⟨(Lib.decDigits n).toArray⟩]++[10]=aN f n 0):=by show _=_;rw[lw];simp[aN]
  have ro:(joined [⟨#[97,99,99,111,117,110,116]⟩,⟨(Lib.decDigits n).toArray⟩]).length<=40:=by rw[lw];simp only[cM,eL,nX];omega
  have aq:c.heap.size<(A c (N #[.pointer U,Z U 0 0] 129)).heap.size:=by simp
  go_upto_region 4 with fail;generalize A c (N #[.pointer U,Z U 0 0] 129)=W1 at u ZR kw aq ⊢;go_wp2_with fail;refine(pd n _ (by omega) (V.aa u ly)).mono ?_;rintro e w2 ⟨rfl,q⟩;have B2:=ae q;clear q;go_wp2_with fail;refine(zJ c W1 w2 c.heap.size [] _ _ _ u B2 ZR (by simp only[nX];omega)).mono ?_;rintro e w3 ⟨rfl,B,K,ur⟩;rw[LN,L.out] at B;have D3:=ae B;have B3:=ae K;clear B K ur L ro B2 ZR u kw aq;have k3:=(B3.cell (p:=(Q w.heap.size 0 U)) D).trans k1;have hz3:w.heap.size<w3.heap.size:=lj D B3.size;go_wp2;clear k3;go_loopw [18] (λi wr=>∃k:Nat,k<=n/\i=J I k/\Hid ((aN f n k).length<=300000∨k=0)/\Hid (Bw wr c.heap.size c.heap.size (aN f n k))/\Hid (Below c.heap.size c wr)) (λi _=>n - (intOf i).toNat);case atStart=>exact⟨0,by omega,rfl,.inr rfl,D3,B3⟩
  case round =>
   obtain⟨k,hk,rfl,HS,HD,s⟩:=hrel;have hlk:=ZI.out k hk;have RW:=ae (g.trans (s.mono g.size));by_cases x:k<n
   ·have hlt2:(k:Int)<n:=by omega
    obtain⟨o0,o1,o2,o3,⟨a0,mv,o4,q4⟩,⟨a1,la,o5,q5⟩⟩:=(H.aa s ly).2 k x;obtain⟨-,-,-,-,⟨z,j,ZK,dg⟩,⟨C,l,bt,fd⟩⟩:=H.2 k x;have e4:=((s.cell (p:=(Q b (off+k*6+4) U)) H.1).trans ZK).symm.trans o4;have e5:=((s.cell (p:=(Q b (off+k*6+5) U)) H.1).trans bt).symm.trans o5;obtain⟨rfl,rfl⟩:z=a0/\j=mv:=by simpa using e4
    obtain⟨rfl,rfl⟩:C=a1/\l=la:=by simpa using e5
    have WR:=ae (EK qr x dg fd);have AD:=ae ((q9 wr).alloc ly (N #[Y (f k).e,J I (f k).m,J I (f k).E,Y (f k).B,Z z (f k).f j,Z C (f k).b l] 46));have RD:=ae (s.trans (AD.mono s.size));have DD:=ae (HD.aa AD ly);clear q4 q5 dg fd ZK bt e4 e5;go_wp2_with fail;clear o0 o1 o2 o3 o4 o5;refine(EQ c c.heap.size _ (f k) z j C l _ RD DD sm ph V WR (by omega)).mono ?_;rintro e w5 ⟨rfl,O,P,Bk⟩;have D5:Hid (Bw w5 c.heap.size c.heap.size (aN f n (k+1))):=O;have B5:=ae P;have At:=ZI.out (k+1) (by omega);clear O P Bk AD RD DD;go_wp2_with fail;refine(EI _ _ _ _ D5).mono ?_;rintro e w6 ⟨rfl,rfl⟩;generalize ZO:(aN f n (k+1)).length=L5 at At ⊢;have ZP:=ae ZO;clear ZO;by_cases ld:(300000:Int)<(L5:Int)
    ·obtain rfl:ZL=[]:=by
      have h2:=ol (f:=f) (n:=n) (show k+1<=n by omega);rw[ZP.out] at h2;have h3:¬ (aN f n n).length<=300000:=by generalize (aN f n n).length=ZQ at h2 ⊢;omega
      rw[HF.out,gM h3]
     go_wp2;go_ret;exact⟨rfl,g.trans (B5.mono g.size)⟩
    ·have R:L5<=300000:=Dt ld;have th:Hid ((aN f n (k+1)).length<=300000∨k+1=0):=by show _∨_;rw[ZP.out];exact Or.inl R
     clear R;go_wp2;exact⟨⟨k+1,by omega,by go_num,th,D5,B5⟩,by simp[intOf];omega⟩
   ·obtain rfl:k=n:=by omega
    obtain rfl:ZL=aN f k k:=by have h1:(aN f k k).length<=300000:=HS.resolve_right (by omega);rw[HF.out,p6 h1]
    go_wp2_with fail;refine(xf _ _ _ _ HD (AX _ _ _)).mono ?_;rintro e w6 ⟨rfl,X⟩;have B6:=ae (s.trans X);clear X;go_wp2;go_ret;exact⟨rfl,g.trans (B6.mono g.size)⟩
attribute [local go_sem] TH
theorem qI:∀(n:Nat) (s:List UInt8),s.length<=n->(∀l∈aL s,(10:UInt8) ∉ l/\l.length<=s.length)/\(aL s).length<=s.length+1:=by
 intro n;induction n with
 |zero =>
  intro s g;obtain rfl:s=[]:=PL.1 (by omega);refine⟨λl b=>?_,by simp[aL]⟩;have:l=[]:=by simpa[aL] using b
  rw[this];simp
 |succ n h =>
  intro s g;rw[lR s];obtain⟨h1,h2⟩:=fo 10 s;have h3:=cy 10 s;by_cases c:(af 10 s).2.2=ZG;{rw[p6 c];have h4:=rW c;obtain⟨f,h6⟩:=h (af 10 s).2.1 (by omega);refine⟨λl b=>?_,by simp only[eL];omega⟩;rcases AT.1 b with rfl|b;{exact⟨h1,h3.1⟩};{exact⟨(f l b).1,by have:=(f l b).2;omega⟩}};{rw[gM c] at h2 ⊢;refine⟨λl b=>?_,by simp⟩;rw[nD.1 b];exact⟨by rw[h2];exact h1,n6 _⟩}
theorem vY:∀{b:List (List UInt8)} {x:List UInt8 × Bool},x∈dE b->x.1∈b
 |[],x,h=>by simp[dE] at h
 |[l],x,h=>by
  by_cases c:l=[]
  ·subst c;simp[dE] at h
  ·simp[dE,c] at h;subst h;simp
 |l::f::b,x,h=>by
  rcases AT.1 (show x∈(l,ZG)::dE (f::b) from h) with rfl|h
  ·simp
  ·exact mq _ (vY h)
theorem vZ:∀b:List (List UInt8),(dE b).length<=b.length
 |[]=>n6 _
 |[l]=>by
  by_cases f:l=[]
  ·subst f;simp[dE]
  ·simp[dE,f]
 |l::c::b=>by have:=vZ (c::b);show((l,ZG)::dE (c::b)).length<=_;simp only[eL] at this ⊢;omega
theorem IE {x:List UInt8 × Bool}(h:(10:UInt8) ∉ x.1):Lib.trimSuffix (pcB x) [10]=x.1:=by
 obtain⟨l,b⟩:=x;cases b with
 |true =>show Lib.trimSuffix (l++[10]) [10]=l;simp[Lib.trimSuffix,Lib.hasSuffix]
 |false =>
  show Lib.trimSuffix l [10]=l;unfold Lib.trimSuffix Lib.hasSuffix;split;{rename_i c;exfalso;refine h ?_;show(10:UInt8)∈l;simp at c;exact c.subset (by simp)};{rfl}
structure FmB (W:M)(h:Nat)(S:List UInt8):Prop where
 size:W.heap.size=h+4
 p:W.heap[h]?=T (N #[Z U 0 0] 37 (0,0))
 q:W.heap[h+1]?=T (N #[.nilIface] 207 (0,0))
 r:RdB W (h+2) (Z U 0 0)
 s:SBxR W (h+3) S
theorem Gg (w:M)(s:ByteArray):FmB ((((A w (N #[Z U 0 0] 37)).alloc (N #[.nilIface] 207)).alloc (N #[Z U 0 0] 268)).alloc (N #[Y s] 9)) w.heap.size s.data.toList:=by
 have n1:(A w (N #[Z U 0 0] 37)).heap.size=w.heap.size+1:=by simp
 have c:((A w (N #[Z U 0 0] 37)).alloc (N #[.nilIface] 207)).heap.size=w.heap.size+2:=by simp
 have b:(((A w (N #[Z U 0 0] 37)).alloc (N #[.nilIface] 207)).alloc (N #[Z U 0 0] 268)).heap.size=w.heap.size+3:=by simp
 have f:=nL w (N #[Z U 0 0] 37);have h1:=nL (A w (N #[Z U 0 0] 37)) (N #[.nilIface] 207);have h2:=nL ((A w (N #[Z U 0 0] 37)).alloc (N #[.nilIface] 207)) (N #[Z U 0 0] 268);have h3:=nL (((A w (N #[Z U 0 0] 37)).alloc (N #[.nilIface] 207)).alloc (N #[Z U 0 0] 268)) (N #[Y s] 9);rw[n1] at h1;rw[c] at h2;rw[b] at h3;refine⟨by simp,?_,?_,?_,h3⟩;{rw[QI _ _ (by rw[b];omega),QI _ _ (by rw[c];omega),QI _ _ (by rw[n1];omega)];exact f};{rw[QI _ _ (by rw[b];omega),QI _ _ (by rw[c];omega)];exact h1};{show _=_;rw[QI _ _ (by rw[b];omega)];exact h2}
theorem RSt.itx {w g:M}{b f bx n:Nat}{v:ZC}{R:List DR}(h:RSt w b f v R)(hi:Itx bx n w g)(hb:b<n)(hx:bx<f)(j:b≠bx):RSt g b f v R:=by
 have i:∀k,Of3 w k->k<w.heap.size/\iw w k:=λk h3=>by rcases h3 with ⟨c,z,h3⟩|⟨c,z,h3⟩|⟨c,z,h3⟩<;>exact⟨(eT.1 h3).1,_,_,_,h3⟩
 refine⟨(hi.keep b h.G.lt j (.inl hb)).trans h.G,h.row.ab λk l hbk=>?_,h.lt,p7 h.le hi.size⟩;obtain⟨h1,h2⟩:=i k l;exact hi.keep k h1 (by omega) (.inr h2)
theorem sX {bx n m:Nat}{w b:M}(h:Itx bx n w b)(hm:m<=n)(hx:m<=bx)(hz:m<=w.heap.size):Below m w b:=⟨h.os,h.tape,h.output,h.size,λk hk=>h.keep k (by omega) (by omega) (.inl (by omega))⟩
theorem eJ {w:M}{k:Nat}{v:ZC}{t:ZH}(h:w.heap[k]?=T (N #[v] t (0,0))):w.cell? (Q k 0 U)=T v/\w.frozen? (Q k 0 U)=ZA:=⟨by rw[HU h];rfl,OP h 0⟩
theorem sY {w:M}{h:Nat}{a b:ZC}{t u:ZH}(h1:w.heap[h]?=T (N #[a] t (0,0)))(h2:w.heap[h+1]?=T (N #[b] u (0,0)))(v c:ZC):((w.setCell (Q h 0 U) v).setCell (Q (h+1) 0 U) c).heap[h]?=T (N #[v] t (0,0))/\((w.setCell (Q h 0 U) v).setCell (Q (h+1) 0 U) c).heap[h+1]?=T (N #[c] u (0,0)):=by
 refine⟨?_,?_⟩;{rw[qh _ _ _ _ (by show h≠h+1;omega)];simp[World.setCell,CP,h1]};{have e:(w.setCell (Q h 0 U) v).heap[h+1]?=T (N #[b] u (0,0)):=(qh _ _ _ _ (by show h+1≠h;omega)).trans h2;generalize w.setCell (Q h 0 U) v=V at e ⊢;simp[World.setCell,CP,e]}
end Go.Proofs.YtpmnbjkjpnclaaaGreatDoor.Vp
namespace Go.Proofs.YtpmnbjkjpnclaaaGreatDoor.Ca
open RowKit
theorem Bdx.set {bx:Nat}{w b:M}(h:Bdx bx w b){p:Addr}(g:p.block≠bx)(c:iw w p.block)(v:ZC):Bdx bx w (b.setCell p v) :=
 ⟨by simpa[World.setCell] using h.size,(Below.heap_setCell _ _ _ _ (λe=>g e.symm)).trans h.G,λk f hn=>(Below.heap_setCell _ _ _ _ (λe=>hn (by rw[show k=p.block from e];exact c))).trans (h.keep k f hn)⟩
end Go.Proofs.YtpmnbjkjpnclaaaGreatDoor.Ca
namespace Go.Proofs.YtpmnbjkjpnclaaaGreatDoor.Vp
open RowKit Go.Shelf Ca
attribute [local go_sem] TH
theorem KR.bdx2 {b f bx:Nat}{w g:M}(h:KR b f w g)(l:bx≠b)(j:bx<w.heap.size)(m:bx<f)(hb:iw w b):Bdx bx w g :=
 ⟨h.size,h.keep bx j l (.inl m),λk n i=>h.keep k n (λe=>i (e ▸ hb)) (.inr λh3=>i (by
  rcases h3 with ⟨c,z,h3⟩|⟨c,z,h3⟩|⟨c,z,h3⟩<;>exact⟨_,_,_,h3⟩))⟩
theorem wj (s:ByteArray)(w:M)(hs:s.size<=300000)(hL:Lay w)(i:EV w 3):Calls Pg 137 #[Y s] w λe L=>Below w.heap.size w L/\((∃a c R,e=ZF (.tuple #[.agg #[Z a R.length c],.nilIface])/\DRow L (w.heap.size+4) (Z a R.length c) R/\SzD 300001 (R.map (·.1))/\∀E,bB [] (tL (aL s.data.toList)) E->R.map (·.1)=E)∨((∀E,¬ bB [] (tL (aL s.data.toList)) E)/\∃ty p,e=ZF (.tuple #[.agg #[Z U 0 0],.iface ty p]))):=by
 refine(U5 (n:=3)).1 ?_;have L0:=ae hL;have E0:=ae i;have aq:=((((q9 w).alloc ly (N #[Z U 0 0] 37)).alloc (by simp) (N #[.nilIface] 207)).alloc (by simp;omega) (N #[Z U 0 0] 268)).alloc (by simp;omega) (N #[Y s] 9);have A0:=ae aq;clear aq;have H:=ae (Gg w s);obtain⟨S,hS⟩:∃S,S=s.data.toList:=⟨_,rfl⟩
 have hSl:S.length<=300000:=by rw[hS,aO];exact hs
 rw[<-hS] at H ⊢;clear hS;have LA:=ae (qI S.length S ly);obtain⟨ZM,ZO⟩:∃ZM,ZM=dE (aL S):=⟨_,rfl⟩
 have QM:Hid (∀x∈ZM,(10:UInt8) ∉ x.1/\x.1.length<=300000):=λx hx=>by rw[ZO] at hx;have:=LA.1 _ (vY hx);exact⟨this.1,by omega⟩
 have QL:ZM.length<=300001:=by have h1:=vZ (aL S);have h2:=LA.2;rw[ZO];omega
 have QF:Hid (ZM.map (·.1)=tL (aL S)):=by show _=_;rw[ZO,vX]
 rw[<-QF.out];have HQ:=ae ZO;clear ZO LA QF;clear hL i;refine callsIn_of_wp_marks Tryz.func137 rfl trivial ?_ rfl;simp only[Tryz.ntmps137,CV,eL,nX,Nat.reduceAdd,Nat.reduceSub,P7,P9,QU,QE,LN,IN];gi_wp2_with (refine⟨trivial,?_⟩;gi_at_call 192;refine(Gf _ _ _).mono ?_;rintro e L ⟨rfl,rfl⟩);generalize (((A w (N #[Z U 0 0] 37)).alloc (N #[.nilIface] 207)).alloc (N #[Z U 0 0] 268)).alloc (N #[Y s] 9)=W at A0 H ⊢;have hsz:=H.size;have SQ:=ae (Ds S (by omega) (w.heap.size+3) (3 - 1) W H.s);rw[<-HQ.out] at SQ;refine oM (bx:=w.heap.size+3) (F:=Fence.wide) rfl (by omega) (gf:=242) (lb:=#[.pointer (T (Q (w.heap.size+3) 0 U))]) rfl trivial (enters_of Tryz.func242 (by kernel_rfl) rfl) (by omega) SQ br (λ_=>rfl)
  (λb o=>∃a c R,Hid (RSt o (w.heap.size+2) (w.heap.size+4) (Z a R.length c) R)/\Hid (SzD b.length (R.map (·.1)))/\Hid (∀t E,b++t=ZM->bB [] (ZM.map (·.1)) E->bB (R.map (·.1)) (t.map (·.1)) E)/\Hid (o.heap[w.heap.size]?=T (N #[Z U 0 0] 37 (0,0))/\o.heap[w.heap.size+1]?=T (N #[.nilIface] 207 (0,0)))/\Hid (Below w.heap.size w o))
  (λc b o=>c=.ret/\∃ty p,Hid (o.heap[w.heap.size]?=T (N #[Z U 0 0] 37 (0,0))/\o.heap[w.heap.size+1]?=T (N #[.iface ty p] 207 (0,0)))/\Hid (∀E,¬ bB [] (ZM.map (·.1)) E)/\Hid (Below w.heap.size w o))
  (λb ZR C h u=>by
   obtain⟨a,c,R,h1,h2,h3,h4,h5⟩:=h;have l1:=(eT.1 h4.1).1;have l2:=(eT.1 h4.2).1
   exact⟨a,c,R,h1.itx u (by omega) (by omega) (by omega),h2,h3,⟨(u.keep _ l1 (by omega) (.inl (by omega))).trans h4.1,(u.keep _ l2 (by omega) (.inl (by omega))).trans h4.2⟩,h5.trans (sX u (by omega) (by omega) h5.size)⟩)
  (λc b ZR C h u=>by
   obtain⟨h0,ty,p,h1,h2,h3⟩:=h;have l1:=(eT.1 h1.1).1;have l2:=(eT.1 h1.2).1
   exact⟨h0,ty,p,⟨(u.keep _ l1 (by omega) (.inl (by omega))).trans h1.1,(u.keep _ l2 (by omega) (.inl (by omega))).trans h1.2⟩,h2,h3.trans (sX u (by omega) (by omega) h3.size)⟩)
  ⟨U,0,[],⟨H.r,cA _ _,by omega,by omega⟩,SzD.nil _,λt E ZN i=>by rw[LN] at ZN;rw[ZN];exact i,⟨H.p,H.q⟩,A0⟩
  (λx=>{ tmps:=#[Y s,undef,.pointer (T (Q w.heap.size 0 U)),.pointer (T (Q (w.heap.size+1) 0 U)),.pointer (T (Q (w.heap.size+1+1) 0 U)),Y ⟨(pcB x).toArray⟩,undef,Y s,.func (.func 242) #[] #[.pointer (T (Q (w.heap.size+3) 0 U))],Y ⟨(pcB x).toArray⟩,undef,undef,undef,undef,undef,undef,undef,undef,undef],defers:=[] }) ?assign ?body ?done ?stop
 case assign =>intro l x W K g;gi_wp2;exact g
 case body =>
  rintro l b x m j ⟨a,c,R,hR,hZ,ZL,f,y⟩ hz;have j:b++[x] <+: ZM:=j;have fd:=QM.out x (j.subset (by simp));have la:=j.length_le;rw[cM,DW] at la;have ld:=ae j;have hpb:(pcB x).length<=300001:=by
   unfold pcB;split;{rw[cM,DW];omega};{omega}
  have TS:Hid (∀V,CallsIn Fence.wide 0 Pg 194 #[Y ⟨(pcB x).toArray⟩,Y ⟨#[10]⟩] V λe L=>e=ZF (Y ⟨x.1.toArray⟩)/\L=V):=λV=>by have h:=Tryz.strings_TrimSuffix ⟨(pcB x).toArray⟩ ⟨#[10]⟩ V (by show(pcB x).toArray.size<=_;rw[CV];omega);rw[show Lib.trimSuffix (⟨(pcB x).toArray⟩:ByteArray).data.toList (⟨#[10]⟩:ByteArray).data.toList=x.1 from IE fd.1] at h;exact U5.2 h
  have RL:=ae (vE (w.heap.size+2) (w.heap.size+4) b.length a c R ⟨x.1.toArray⟩ m hR hZ (by omega) (by show x.1.length<=300000;exact fd.2) (L0.aa y ly) (E0.aa y E0.1));clear j;gi_wp2_with fail;refine⟨trivial,((TS _).inRound l).mono ?_⟩;rintro e V ⟨rfl,hV⟩;rw[hV];clear hV TS;gi_wp2_with fail;refine⟨trivial,((U5.2 RL).inRound l).mono ?_⟩;rintro e W2 ⟨g,hN⟩;have K2:=ae g;have D:Hid (W2.heap[w.heap.size]?=T (N #[Z U 0 0] 37 (0,0))/\W2.heap[w.heap.size+1]?=T (N #[.nilIface] 207 (0,0))):=⟨(g.keep _ (by omega) (by omega) (.inl (by omega))).trans f.1,(g.keep _ (by omega) (by omega) (.inl (by omega))).trans f.2⟩
  have X2:Hid (Bdx (w.heap.size+3) m W2):=g.bdx2 (by omega) (by omega) (by omega) ⟨_,_,_,hR.G⟩;have B2:=ae (y.trans (g.aa (n:=w.heap.size) (by omega) (by omega) y.size));have z2:=g.size;clear g RL;rcases hN with ⟨a',c',R',rfl,bt,dg,ZI⟩|⟨ZP,ty,p,rfl⟩
  {have R2:=ae bt;have Z2:=ae dg;have G2:=ae (show ∀G,Good (R.map (·.1)) x.1 G->R'.map (·.1)=G from ZI);clear bt dg ZI;gi_wp2;refine⟨X2,a',c',R',R2,by rw[cM];exact Z2,λt E ZN i=>?_,D,B2⟩;have h1:=ZL.out (x::t) E (by rw[<-ZN];simp) i;obtain⟨G,h2,h3⟩:=h1;rw[G2.out G h2];exact h3}
  ·have ZP:∀G,¬ Good (R.map (·.1)) x.1 G:=ZP;have NO:Hid (∀E,¬ bB [] (ZM.map (·.1)) E):=λE i=>by obtain⟨t,ZN⟩:=ld.out;obtain⟨G,h2,_⟩:=ZL.out (x::t) E (by rw[<-ZN];simp) i;exact ZP G h2
   clear ZP;have ca:=(eJ D.1).1;have fa:=(eJ D.1).2;have cb:=(eJ D.2).1;have fb:=(eJ D.2).2;have ZQ:=ae (sY D.1 D.2 (Z U 0 0) (.iface ty p));have X3:=ae ((X2.set (p:=(Q w.heap.size 0 U)) (by show w.heap.size≠w.heap.size+3;omega) ⟨_,_,_,f.1⟩ (Z U 0 0)).set (p:=(Q (w.heap.size+1) 0 U)) (by show w.heap.size+1≠w.heap.size+3;omega) ⟨_,_,_,f.2⟩ (.iface ty p));have P:=ae ((B2.setCell (p:=(Q w.heap.size 0 U)) ly (Z U 0 0)).setCell (p:=(Q (w.heap.size+1) 0 U)) (F6 _) (.iface ty p));gi_wp2;exact⟨X3,rfl,ty,p,ZQ,NO,P⟩
 case done =>rintro ZK ys m ZJ rfl ⟨a,c,R,hR,hZ,ZL,f,y⟩ g;have ca:=(eJ f.1).1;have fa:=(eJ f.1).2;have cb:=(eJ f.2).1;have fb:=(eJ f.2).2;have cr:=hR.G.c0;have ZQ:=ae (sY f.1 f.2 (Z a R.length c) .nilIface);have P:=ae ((y.setCell (p:=(Q w.heap.size 0 U)) ly (Z a R.length c)).setCell (p:=(Q (w.heap.size+1) 0 U)) (F6 _) .nilIface);have D3:=ae ((hR.row.set (p:=(Q w.heap.size 0 U)) (e:=0) (.inl (by show w.heap.size<w.heap.size+4;omega)) (Z a R.length c)).set (p:=(Q (w.heap.size+1) 0 U)) (e:=0) (.inl (by show w.heap.size+1<w.heap.size+4;omega)) .nilIface);have X:=ae ((KeepsOthers.setCell (m.setCell (Q w.heap.size 0 U) (Z a R.length c)) (Q (w.heap.size+1) 0 U) .nilIface).same ZK _ ((KeepsOthers.setCell m (Q w.heap.size 0 U) (Z a R.length c)).same ZK _ g rfl) rfl);have zz:W.heap.size<=ZK:=ZJ;gi_wp2;generalize (m.setCell (Q w.heap.size 0 U) (Z a R.length c)).setCell (Q (w.heap.size+1) 0 U) .nilIface=V3 at ZQ P D3 X ⊢;refine⟨by simp,.inl ⟨_,_,rfl,run_takeDeferred X,?_⟩⟩;have B:=da (n:=W.heap.size) V3 ZJ (eT.1 X).1 (.deferred U);have c1:=(B.cell (p:=(Q w.heap.size 0 U)) (by show w.heap.size<W.heap.size;omega)).trans (eJ ZQ.1).1;have c2:=(B.cell (p:=(Q (w.heap.size+1) 0 U)) (by show w.heap.size+1<W.heap.size;omega)).trans (eJ ZQ.2).1;refine⟨.tuple #[.agg #[Z a R.length c],.nilIface],by simp[results,Tryz.results137,go_sem,c1,c2],P.trans (B.mono (by omega)),.inl ⟨a,c,R,rfl,?_,hZ.up QL,λE i=>ZL [] E (by simp) i⟩⟩;refine D3.ab λk O _=>World.putObj_heap_other λe=>?_;subst e;rcases O with ⟨x,z,O⟩|⟨x,z,O⟩|⟨x,z,O⟩<;>(have:=X.symm.trans O;cases this)
 case stop =>rintro ZK c b m ZJ hpre ⟨rfl,ty,p,f,HO,y⟩ g;gi_wp2;refine⟨by simp,.inl ⟨_,_,rfl,run_takeDeferred g,?_⟩⟩;have B:=da (n:=W.heap.size) m ZJ (eT.1 g).1 (.deferred U);have c1:=(B.cell (p:=(Q w.heap.size 0 U)) (by show w.heap.size<W.heap.size;omega)).trans (eJ f.1).1;have c2:=(B.cell (p:=(Q (w.heap.size+1) 0 U)) (by show w.heap.size+1<W.heap.size;omega)).trans (eJ f.2).1;exact⟨.tuple #[.agg #[Z U 0 0],.iface ty p],by simp[results,Tryz.results137,go_sem,c1,c2],y.trans (B.mono (by omega)),.inr ⟨HO,ty,p,rfl⟩⟩
def AcR (w:M)(b:Nat)(v:ZC):Prop:=w.heap[b]?=T (N #[v] 37 (0,0))
theorem AcR.lt {w:M}{b:Nat}{v:ZC}(h:AcR w b v):b<w.heap.size:=(eT.1 h).1
theorem AcR.c0 {w:M}{b:Nat}{v:ZC}(h:AcR w b v):w.cell? (Q b 0 U)=T v:=by rw[HU h];rfl
theorem AcR.fz {w:M}{b:Nat}{v:ZC}(h:AcR w b v)(j:Nat):w.frozen? (Q b j U)=ZA:=OP h j
theorem AcR.aa {w c:M}{b B:Nat}{v:ZC}(h:AcR w b v)(hb:Below B w c)(f:b<B):AcR c b v:=(hb.block b f).trans h
theorem AcR.set {w:M}{b:Nat}{v:ZC}(h:AcR w b v)(c:ZC):AcR (w.setCell (Q b 0 U) c) b c:=by unfold AcR at *;simp[World.setCell,CP,h]
theorem xC:(Pg.info? 37).map (·.size)=T 1:=by kernel_rfl
theorem dl {fn:Func}{p u:Tmp}(h:fn.results=#[.cell p 37,.tmp u])(tmps:Array ZC)(w:M)(g:Nat)(v:ZC)(c:tmps.getD p undef=.pointer (T (Q g 0 U)))(b:AcR w g v):(results fn tmps).run Pg w=.ok (.tuple #[.agg #[v],tmps.getD u undef]) w:=by rw[results_cell_tmp h,c];simp[asAddr,run_loadVar_row w g 37 37 #[v] (0,0) _ b Tryz.underlying37 rfl xC,Result.andThen]
def ez (w:M)(S:List UInt8)(e:Ending)(b:M):Prop :=
 ∃(r:Option (List Deed)) (a:Option Addr) (c:Nat) (R:List DR),jo S r/\e=ZF (.tuple #[.agg #[Z a R.length c],ZD r.isSome])/\DRow b w.heap.size (Z a R.length c) R/\R.map (·.1)=r.getD []/\SzD 300001 (R.map (·.1))/\Below w.heap.size w b
theorem wk {w:M}{b size n c:Nat}{e:ZH}{a:Option Addr}{g:List ZC}(h:w.ownsRow b e size (Z a n c) n g):n<=c:=by
 rcases h.2 with ⟨f,h0⟩|⟨g',cap,cur,f,hb,hg,h1,_⟩
 ·cases f
  exact n6 _
 ·cases f
  exact h1
theorem As (s:ByteArray)(w:M)(r:s.size<=maxLen)(hn:s.data.toList=[]∨300000<s.size):Calls Pg 78 #[Y s] w λe o=>ez w s.data.toList e o:=by
 have j:Hid (jo s.data.toList U):=gJ λf n h=>by
  rcases hn with h1|h1;{exact h1};{have:=lX h;rw[aO] at this;omega}
 have c:=ae ((q9 w).alloc ly (N #[Z U 0 0] 37));have b:Hid (AcR (A w (N #[Z U 0 0] 37)) w.heap.size (Z U 0 0)):=nL w _;unfold maxLen at r;unfold ez;generalize g:s.data.toList=S at j hn ⊢;rcases hn with hn|hn
 ·have m:s=⟨#[]⟩:=by
   refine N5 (QS ?_);rw[g,hn]
  subst m;clear g;go_enter Tryz.func78,Tryz.ntmps78;go_upto_region 1 with fail;generalize A w (N #[Z U 0 0] 37)=W at c b ⊢;have c0:=b.c0;have f0:=b.fz 0;have q:=b.lt;have l:=ae (b.set (Z U 0 0));have i:=ae (c.setCell (p:=(Q w.heap.size 0 U)) ly (Z U 0 0));go_wp2;try simp only[Exit.inBlock,Exit.then]
  refine bp (dl rfl _ _ w.heap.size _ rfl l) rfl ?_;exact⟨U,U,0,[],j,rfl,cA _ _,rfl,SzD.nil _,i⟩
 ·have hne:¬ s.toList=[]:=i8 (by omega);have hp:300000<(s.size:Int):=by omega
  clear g;go_enter Tryz.func78,Tryz.ntmps78;go_upto_region 1 with fail;generalize A w (N #[Z U 0 0] 37)=W at c b ⊢;have c0:=b.c0;have f0:=b.fz 0;have q:=b.lt;have l:=ae (b.set (Z U 0 0));have i:=ae (c.setCell (p:=(Q w.heap.size 0 U)) ly (Z U 0 0));go_wp2;try simp only[Exit.inBlock,Exit.then]
  refine bp (dl rfl _ _ w.heap.size _ rfl l) rfl ?_;exact⟨U,U,0,[],j,rfl,cA _ _,rfl,SzD.nil _,i⟩
theorem xD (s:ByteArray)(w:M)(h0:0<s.size)(h3:s.size<=300000)(hL:Lay w)(O:EV w 3):Calls Pg 78 #[Y s] w λe w'=>ez w s.data.toList e w':=by
 have RF:=ae (λV (ZM:Below w.heap.size w V)=>wj s V h3 (hL.aa ZM ly) (O.aa ZM O.1));have H:=ae (λV (ZM:Below w.heap.size w V)=>hL.aa ZM ly);have r:=ae ((q9 w).alloc ly (N #[Z U 0 0] 37));have G:Hid (AcR (A w (N #[Z U 0 0] 37)) w.heap.size (Z U 0 0)):=nL w _;have aq:¬ s.toList=[]:=i8 (by omega);have hie:s.toList.isEmpty=ZA:=by simpa using aq
 have hp:¬ 300000<(s.size:Int):=by omega
 have X:=ae (BG s);have B:s.data.toList≠[]:=λe=>by have:=wA List.length e;rw[aO,nX] at this;omega
 unfold ez;generalize hS:s.data.toList=S at RF X B ⊢;have HS:=ae hS;clear hL O hS;go_enter Tryz.func78,Tryz.ntmps78;go_upto_region 1 with fail;generalize A w (N #[Z U 0 0] 37)=W at r G ⊢;have ZP:=G.lt;go_wp2_with fail;refine(RF W r).mono ?_;rintro e u ⟨l,hF⟩;rcases hF with ⟨a,c,R,rfl,hD,hZ,hG⟩|⟨ZL,ty,p,rfl⟩
 ·have x:=(q9 u).alloc ly (N #[Z a R.length c] 37);have D:=ae ((hD.aa x ly).mono (show w.heap.size+1<=W.heap.size+4 by omega));have b:=ae ((r.trans (l.mono r.size)).trans (x.mono (by have:=r.size;have:=l.size;omega)));have j:=ae (G.aa (l.trans (x.mono l.size)) ZP);have z:Hid (AcR (A u (N #[Z a R.length c] 37)) u.heap.size (Z a R.length c)):=nL u _;have ZI:=ae hZ;have HG:=ae hG;have hcap:=wk hD.i;have hRl:R.length<=300001:=by have:=hZ.1;simpa using this
  clear x hD hZ hG l r G;go_upto_region 4 with fail;generalize A u (N #[Z a R.length c] 37)=m at D b j z ⊢;generalize u.heap.size=b4 at z ⊢;have c4:=z.c0;have l4:=z.lt;by_cases L:∃f n,bF f n=S
  ·obtain⟨f,n,P⟩:=L;have o:R.map (·.1)=nrm f n:=HG.out _ (mX P B);have bt:n=R.length:=by rw[<-lu f n,<-o];simp
   subst bt;have ZJ:SlDeed m a R.length f:=by have h1:=D.ak;rw[o] at h1;exact pW h1
   have t:=nS (f:=f) (n:=R.length) (k:=300001) (by rw[<-o];exact ZI) (by omega);have ZR:=iu a R.length c f m (by omega) ZJ (by omega) (λi hi=>(t i hi).1) (H m b).tb (H m b).tw (H m b).pw;rw[P] at ZR;have ZO:=ae (sw P B (λE O=>by rw[<-o];exact HG E O));have es:(⟨S.toArray⟩:ByteArray)=s:=by refine N5 (QS ?_);rw[HS.out]
   rw[es] at ZR;have y:=ae ZR;have dg:=ae o;clear ZR ZJ t P es o;go_wp2_with fail;refine y.mono ?_;rintro e w3 ⟨rfl,g⟩;have D3:=ae (D.aa g ly);have ZK:=ae (b.trans (g.mono b.size));have q:=ae (j.aa g j.lt);have C3:=ae (z.aa g z.lt);clear g y c4 l4 D b j z;have c4:=C3.c0;have l4:=C3.lt;have c0:=q.c0;have f0:=q.fz 0;have ZP:=q.lt;have ZN:=ae (q.set (Z a R.length c));have K:=ae (ZK.setCell (p:=(Q w.heap.size 0 U)) ly (Z a R.length c));have D5:=ae ((D3.set (p:=(Q w.heap.size 0 U)) (e:=0) (.inl (by show w.heap.size<w.heap.size+1;omega)) (Z a R.length c)).mono (show w.heap.size<=w.heap.size+1 by omega));go_wp2;try simp only[Exit.inBlock,Exit.then]
   refine bp (dl rfl _ _ w.heap.size _ rfl ZN) rfl ?_;exact⟨T (nrm f R.length),a,c,R,ZO,rfl,D5,dg,ZI,K⟩
  ·have C:∀f n,bF f n≠S:=λf n h=>L ⟨f,n,h⟩;have ZO:Hid (jo S U):=gJ λf n h=>absurd h (C f n);have t:=Bq ZI.out (by omega);have ZR:=iu a R.length c (dF (R.map (·.1))) m (by omega) D.ak (by omega) (λi hi=>(t i (by simpa using hi)).1) (H m b).tb (H m b).tw (H m b).pw;have ZQ:=C (dF (R.map (·.1))) R.length;generalize bF (dF (R.map (·.1))) R.length=F at ZR ZQ;have y:=ae ZR;have ne1:(F == S)=ZA:=by simpa using ZQ
   clear ZR t L C;go_wp2_with fail;refine y.mono ?_;rintro e w3 ⟨rfl,g⟩;have ZK:=ae (b.trans (g.mono b.size));have q:=ae (j.aa g j.lt);clear g y c4 l4 D b j z;have c0:=q.c0;have f0:=q.fz 0;have ZP:=q.lt;have ZN:=ae (q.set (Z U 0 0));have K:=ae (ZK.setCell (p:=(Q w.heap.size 0 U)) ly (Z U 0 0));have e1:¬ F=s.toList:=by rw[X.out];exact ZQ
   have e2:(F == s.toList)=ZA:=by simpa using e1
   go_wp2;try simp only[Exit.inBlock,Exit.then]
   refine bp (dl rfl _ _ w.heap.size _ rfl ZN) rfl ?_;exact⟨U,U,0,[],ZO,rfl,cA _ _,rfl,SzD.nil _,K⟩
 ·have ZO:Hid (jo S U):=gJ λf n h=>UH λhq=>ZL _ (mX h hq);have x:=l.alloc l.size (N #[Z U 0 0] 37);have b:=ae (r.trans (x.mono r.size));have j:=ae (G.aa x ZP);clear x l r G ZL;go_upto_region 4 with fail;generalize A u (N #[Z U 0 0] 37)=m at b j ⊢;have c0:=j.c0;have f0:=j.fz 0;have ZP:=j.lt;have ZN:=ae (j.set (Z U 0 0));have K:=ae (b.setCell (p:=(Q w.heap.size 0 U)) ly (Z U 0 0));go_wp2;try simp only[Exit.inBlock,Exit.then]
  refine bp (dl rfl _ _ w.heap.size _ rfl ZN) rfl ?_;exact⟨U,U,0,[],ZO,rfl,cA _ _,rfl,SzD.nil _,K⟩
theorem qJ (s:ByteArray)(w:M)(c:s.size<=maxLen)(hL:Lay w)(f:EV w 3):Calls Pg 78 #[Y s] w λe b=>ez w s.data.toList e b:=by
 by_cases h:s.data.toList=[]∨300000<s.size;{exact As s w c h};{refine xD s w ?_ (by omega) hL f;have h1:s.data.toList≠[]:=λe=>h (.inl e);have:=GC.2 h1;rw[aO] at this;exact this}
