import Derived.Test.YtpmnbjkjpnclaaaGreatDoorQZ
import Derived.Test.YtpmnbjkjpnclaaaGreatDoorQI
import Derived.Test.YtpmnbjkjpnclaaaGreatDoorRO
set_option maxRecDepth 100000
set_option maxHeartbeats 4000000
set_option linter.unusedSimpArgs false
open Go renaming Addr.mk->Q,Value.slice->Z,Value.string->U,Value.int->N,Value.bool->ZD,Value.agg->ZH,Obj.cells->J,IntKind.i64->I,World->M,Value->ZC,TypeId->ZI,Ending.returned->ZF,World.alloc->A,Proofs.Tryz.prog->Pg
open Option renaming none->Y,some->T
open Bool renaming false->ZA,true->ZG
namespace Go.Proofs.YtpmnbjkjpnclaaaGreatDoor.Vp
open RowKit Go.Shelf Ca
attribute [local go_sem] TO
def dG:List (List UInt8)->List (List UInt8 × Bool)
 |[]=>[]
 |[l]=>if l=[] then [] else [(l,ZA)]
 |l::b::ls=>(l,ZG)::dG (b::ls)
theorem wj:∀b:List (List UInt8),(dG b).map (·.1)=tL b
 |[]=>rfl
 |[l]=>by
  by_cases h:l=[]
  ·subst h;rfl
  ·simp[dG,tL,h]
 |l::c::b=>by show l::(dG (c::b)).map (·.1)=_;rw[wj (c::b)];rfl
theorem Dx {l:List UInt8}{b:List (List UInt8)}(h:b≠[]):dG (l::b)=(l,ZG)::dG b:=by obtain⟨l',ls',rfl⟩:=UA h;rfl
def pcB (x:List UInt8 × Bool):List UInt8:=if x.2=ZG then x.1++[10] else x.1
theorem Gl {s:List UInt8}(h:s≠[]):∃x t,dG (aL s)=x::dG (aL t)/\t.length<s.length/\((af 10 s).2.2=ZG/\x=((af 10 s).1,ZG)/\t=(af 10 s).2.1∨(af 10 s).2.2=ZA/\x=(s,ZA)/\t=[]):=by
 cases hc:(af 10 s).2.2 with
 |true =>refine⟨((af 10 s).1,ZG),(af 10 s).2.1,?_,rZ hc,.inl ⟨rfl,rfl,rfl⟩⟩;rw[lS s,p6 hc,Dx (AX _)]
 |false =>
  refine⟨(s,ZA),[],?_,by have:=GC.2 h;simpa using this,.inr ⟨rfl,rfl,rfl⟩⟩;rw[lS s,gM (by rw[hc];simp)];show(if s=[] then [] else [(s,ZA)])=[(s,ZA)]
  rw[gM h]
theorem Gm (s:ByteArray)(w:M)(b:Nat):CallsIn Fence.wide b Pg 192 #[U s] w λe c=>e=ZF (.func (.func 242) #[] #[.pointer (T (Q w.heap.size 0 Y))])/\c=A w (J #[U s] 9):=by refine V4 Tryz.func192 rfl trivial ?_ rfl;simp only[Tryz.ntmps192,CV,eL,nX,Nat.reduceAdd,Nat.reduceSub,QG,QH,Q0,QN,LY,IN];gi_wp2;go_ret;exact⟨rfl,rfl⟩
def SBxR (w:M)(bx:Nat)(s:List UInt8):Prop:=w.heap[bx]?=T (J #[U ⟨s.toArray⟩] 9 (0,0))
theorem SBxR.lt {w:M}{b:Nat}{s:List UInt8}(h:SBxR w b s):b<w.heap.size:=(eT.1 h).1
theorem SBxR.c0 {w:M}{b:Nat}{s:List UInt8}(h:SBxR w b s):w.cell? (Q b 0 Y)=T (U ⟨s.toArray⟩):=by rw[HU h];rfl
theorem SBxR.fz {w:M}{b:Nat}{s:List UInt8}(h:SBxR w b s):w.frozen? (Q b 0 Y)=ZA:=PC h 0
theorem SBxR.set {w:M}{b:Nat}{s:List UInt8}(h:SBxR w b s)(t:List UInt8):SBxR (w.setCell (Q b 0 Y) (U ⟨t.toArray⟩)) b t:=by unfold SBxR at *;simp[World.setCell,CP,h]
theorem Dy (S:List UInt8)(hS:(S.length:Int)<=1000000)(bx ZN:Nat)(w:M)(hb:SBxR w bx S):Ja bx Fence.wide ZN Pg 242 #[.pointer (T (Q bx 0 Y))] (λx:List UInt8 × Bool=>#[U ⟨(pcB x).toArray⟩]) (λpre x=>pre++[x] <+: dG (aL S)) (λxs=>xs=dG (aL S)) (λpre=>pre <+: dG (aL S)) w:=by
 intro l ZP Jx W R hJ H hY X;have ZO:=ae hJ;have HJx:=ae H;have HY:=ae hY;have H0:=ae X;have hbl:bx<W.heap.size:=lj hb.lt R.size;have B0:Hid (SBxR W bx S):=(R.block bx hb.lt).trans hb;clear hJ H hY X hb R;refine V4 Tryz.func242 rfl trivial ?_ rfl;simp only[Tryz.ntmps242,CV,eL,nX,Nat.reduceAdd,Nat.reduceSub,QG,QH,Q0,QN,LY,IN];gi_wp2;gi_loopw [3,4] (λ_ _ wr=>∃(rest:List UInt8) (pre:List (List UInt8 × Bool)),(rest.length:Int)<=1000000/\Hid (SBxR wr bx rest)/\Hid (pre++dG (aL rest)=dG (aL S))/\Hid (ZP pre wr)/\W.heap.size<=wr.heap.size) (λ_ _ wr=>match wr.cell? (Q bx 0 Y) with|some (U s)=>s.size|_=>0);case atStart=>exact⟨S,[],hS,B0,rfl,H0,n6 _⟩
 case round =>
  obtain⟨rest,pre,hr,F,O,u,hz⟩:=hrel;have c0:=F.c0;have C0:=ae c0;have f0:=F.fz;by_cases y:rest=[]
  {subst y;gi_wp2;go_end0;refine⟨⟨_,rfl⟩,.inl ⟨pre,?_,u⟩⟩;have:=O.out;rw[show dG (aL [])=[] from rfl,WK] at this;exact this}
  ·have hpos:0<(rest.length:Int):=by have:=GC.2 y;omega
   obtain⟨x,t,L,ZQ,ZJ⟩:=Gl y;have o:Hid (∀V,CallsIn Fence.wide (ZN - 1) Pg 243 #[U ⟨rest.toArray⟩,N .u8 10] V λe w'=>e=ZF (N I (Lib.indexByte rest 10))/\w'=V):=λV=>VB.2 (Tryz.strings_IndexByte ⟨rest.toArray⟩ 10 V);have C:pre++[x] <+: dG (aL S):=⟨dG (aL t),by rw[<-O.out,L];simp⟩
   have K:Hid (pre++[x]++dG (aL t)=dG (aL S)):=by show _=_;rw[<-O.out,L];simp
   have r:=ae C;have tl:(t.length:Int)<=1000000:=by omega
   have G:Hid (∀V,ZP pre V->W.heap.size<=V.heap.size->YieldAt Fence.wide (ZN - 1) Pg l #[U ⟨(pcB x).toArray⟩] V λe E=>(e=ZF (ZD ZG)/\ZP (pre++[x]) E/\E.heap[bx]?=V.heap[bx]?/\V.heap.size<=E.heap.size)∨(e=ZF (ZD ZA)/\Jx (pre++[x]) E)):=λV h1 h2=>HY pre x V r h1 h2;rcases vh 10 rest with ⟨hi,b⟩|⟨i,hi,hil,b⟩
   ·rcases ZJ with ⟨h1,_⟩|⟨_,rfl,rfl⟩
    {rw[b] at h1;cases h1};have q:=ae (ZO _ _ _ u (Itx.setCell (n:=W.heap.size) wr 0 (U ⟨#[]⟩)));have p:Hid (SBxR (wr.setCell (Q bx 0 Y) (U ⟨#[]⟩)) bx []):=F.set [];rw[hi] at o;clear b hi C;gi_wp2_with fail;refine⟨trivial,λh=>(by cases h),(o _).mono ?_⟩;rintro e V ⟨rfl,B⟩;rw[B];clear B o;obtain⟨fn,tmps,assign,body,D,hR⟩:=G.out _ q (by simp;omega);rw[show pcB (rest,ZA)=rest from rfl] at D;have ZM:=ae hR;clear hR G;gi_wp2;refine⟨λh=>(by cases h),ZM.mono ?_⟩;rintro e ZS (⟨rfl,c,g,m⟩|⟨rfl,f⟩)
    ·have P:=ae c;have j:Hid (SBxR ZS bx []):=g.trans p;have z3:W.heap.size<=ZS.heap.size:=by simp at m;omega
     have c3:=j.c0;clear c g m p q D;gi_wp2;exact⟨⟨[],_,tl,j,K,P,z3⟩,by rw[C0.out,j.c0];exact ZQ⟩
    ·have ZR:=ae f;clear f;gi_wp2;try simp only[Exit.inBlock,Exit.then]
     refine Jb rfl rfl ?_;exact⟨⟨_,rfl⟩,.inr ⟨_,r,ZR⟩⟩
   ·rcases ZJ with ⟨_,rfl,rfl⟩|⟨h1,_⟩
    case inr=>rw[b] at h1;cases h1
    have il:(i:Int)<(rest.length:Int):=by omega
    have ZK:(af 10 rest).1++[10]=rest.take (i+1):=by
     have h2:=(fq 10 rest).2;rw[b] at h2 ⊢;rw[p6 rfl] at h2;have h3:rest[i]?=T 10:=by have:=wA (λz=>z[i]?) h2;simp only at this;rw[this,IX (by rw[OR];omega),OR,Q3 (by omega),Nat.sub_self];rfl
     rw[T1,h3];rfl
    have e2:(af 10 rest).2.1=rest.drop (i+1):=by rw[b]
    have s1:(⟨rest.toArray⟩:ByteArray).extract 0 (i+1)=⟨(pcB ((af 10 rest).1,ZG)).toArray⟩:=by rw[show pcB ((af 10 rest).1,ZG)=(af 10 rest).1++[10] from rfl,ZK];refine ON (QZ ?_);simp
    have s2:(⟨rest.toArray⟩:ByteArray).extract (i+1) rest.length=⟨(af 10 rest).2.1.toArray⟩:=by rw[e2];refine ON (QZ ?_);simp only[PO,QE,PJ];rw[IU (by simp)]
    have J1:=ae (ZO _ _ _ u (Itx.setCell (n:=W.heap.size) wr 0 (U ⟨(af 10 rest).2.1.toArray⟩)));have B1:Hid (SBxR (wr.setCell (Q bx 0 Y) (U ⟨(af 10 rest).2.1.toArray⟩)) bx (af 10 rest).2.1):=F.set _;have ZL:=(dB (wr.setCell (Q bx 0 Y) (U ⟨(af 10 rest).2.1.toArray⟩)).heap.size (wr.setCell (Q bx 0 Y) (U ⟨(af 10 rest).2.1.toArray⟩))).drew;have q:=ae (ZO _ _ _ J1 (Itx.u ZL ly));have p:Hid (SBxR (wr.setCell (Q bx 0 Y) (U ⟨(af 10 rest).2.1.toArray⟩)).drew bx (af 10 rest).2.1):=(ZL.block bx (by simp;omega)).trans B1;have z2:W.heap.size<=(wr.setCell (Q bx 0 Y) (U ⟨(af 10 rest).2.1.toArray⟩)).drew.heap.size:=by simp;omega
    rw[hi] at o;clear b hi C ZK e2 ZL J1 B1;gi_wp2_with fail;refine⟨trivial,λh=>(by cases h),(o _).mono ?_⟩;rintro e V ⟨rfl,B⟩;rw[B];clear B o;gi_upto_region 4 with fail;have b1:(i:Int)+1<=(rest.length:Int):=by omega
    have b2:(0:Int)<=(i:Int)+1:=by omega
    have b3:((i:Int)+1).toNat=i+1:=by omega
    have b4:IntKind.i64.wrap ((i:Int)+1)=(i:Int)+1:=by rw[p9];omega
    have b5:i+1<=rest.length:=by omega
    gi_region_with fail;all_goals
     generalize (wr.setCell (Q bx 0 Y) (U ⟨(af 10 rest).2.1.toArray⟩)).drew=V2 at q p z2 ⊢;obtain⟨fn,tmps,assign,body,D,hR⟩:=G.out _ q z2;have ZM:=ae hR;clear hR G;gi_wp2;refine⟨λh=>(by cases h),ZM.mono ?_⟩;rintro e ZS (⟨rfl,c,g,m⟩|⟨rfl,f⟩)
     ·have P:=ae c
      have j:Hid (SBxR ZS bx (af 10 rest).2.1):=g.trans p;have z3:W.heap.size<=ZS.heap.size:=by omega
      have c3:=j.c0;clear c g m p q D;gi_wp2;exact⟨⟨_,_,tl,j,K,P,z3⟩,by rw[C0.out,j.c0];exact ZQ⟩
     ·have ZR:=ae f
      clear f;gi_wp2;try simp only[Exit.inBlock,Exit.then]
      refine Jb rfl rfl ?_;exact⟨⟨_,rfl⟩,.inr ⟨_,r,ZR⟩⟩
theorem Dz {L:Nat}(h:¬ (300000:Int)<(L:Int)):L<=300000:=by omega
theorem iy (a:Option Addr)(n cap:Nat)(f:Nat->Deed)(w:M)(hn:(n:Int)<=1048576)(hv:SlDeed w a n f)(qr:(n:Int)<=cap)(u:∀i,i<n->cV (f i))(m:Tab w)(dg:TabW w)(hP:Pow w):Calls Pg 26 #[ZH #[Z a n cap]] w λe w'=>e=ZF (U ⟨(bG f n).toArray⟩)/\Below w.heap.size w w':=by
 have HV:=ae hv;have HM:=ae u;have H:=ae m;have ZN:=ae dg;have HP:=ae hP;have K:=m.1;clear hv u m dg hP;have t:=ae ((q9 w).alloc ly (J #[Z a n cap] 37));have k0:(A w (J #[Z a n cap] 37)).cell? (Q w.heap.size 0 Y)=T (Z a n cap):=by simp
 have hz:w.heap.size<(A w (J #[Z a n cap] 37)).heap.size:=by simp
 obtain⟨ZM,m⟩:∃ZM,ZM=bG f n:=⟨_,rfl⟩
 rw[<-m];have F:=ae (show ZM=if de f n=ZG then (if (aN f n n).length<=300000 then aN f n n else []) else [] from m);clear m;go_enter Tryz.func26,Tryz.ntmps26;go_wp2_with fail;generalize A w (J #[Z a n cap] 37)=W at t k0 hz ⊢;refine(pc a n cap f _ hn (HV.aa t ly) qr HM (H.aa t H.1)).mono ?_;rintro e c ⟨rfl,o⟩;have g:=ae (t.trans (o.mono t.size));have k1:=(o.cell (p:=(Q w.heap.size 0 Y)) hz).trans k0;have D:w.heap.size<c.heap.size:=lj hz o.size;clear o t k0 hz;have HO:=ae (λh:de f n=ZG=>(⟨fT h,h⟩:(1<=n/\n<=400/\aM (bi f) n=-1)/\de f n=ZG));obtain⟨r,hr⟩:∃r,r=de f n:=⟨_,rfl⟩
 rw[<-hr] at F ⊢;have ZJ:=ae hr;clear hr;cases r with
 |false =>
  obtain rfl:ZM=[]:=by have:=F.out;simpa using this
  go_wp2;go_ret;exact⟨rfl,g⟩
 |true =>
  have HF:=ae (show ZM=if (aN f n n).length<=300000 then aN f n n else [] by have:=F.out;simpa using this);obtain⟨⟨hn1,hn4,-⟩,q⟩:=HO.out ZJ.symm;have ph:=ae q;have bt:=ae (ss q);clear F HO HM q ZJ;obtain⟨b,off,rfl,y⟩:=HV.resolve_left (by omega);have G:=ae (y.aa g ly);have ur:=ae (H.aa g K);have la:=ae (ZN.aa g K);have ZQ:=ae (HP.aa g ly);clear HV y H ZN HP;have hd:=gX n (by omega);have z:=ae ((q9 c).alloc ly (J #[.pointer Y,Z Y 0 0] 129));have ZS:=ae (Bw.new c);have kw:=(z.cell (p:=(Q w.heap.size 0 Y)) D).trans k1;have ZL:Hid (joined [⟨#[97,99,99,111,117,110,116]⟩,⟨(Lib.decDigits n).toArray⟩]++[10]=aN f n 0):=by show _=_;rw[lC];simp[aN]
  have ro:(joined [⟨#[97,99,99,111,117,110,116]⟩,⟨(Lib.decDigits n).toArray⟩]).length<=40:=by rw[lC];simp only[cM,eL,nX];omega
  have L:c.heap.size<(A c (J #[.pointer Y,Z Y 0 0] 129)).heap.size:=by simp
  go_upto_region 4 with fail;generalize A c (J #[.pointer Y,Z Y 0 0] 129)=W1 at z ZS kw L ⊢;go_wp2_with fail;refine(pk n _ (by omega) (ZQ.aa z ly)).mono ?_;rintro e w2 ⟨rfl,o⟩;have B2:=ae o;clear o;go_wp2_with fail;refine(zP c W1 w2 c.heap.size [] _ _ _ z B2 ZS (by simp only[nX];omega)).mono ?_;rintro e w3 ⟨rfl,x,R,th⟩;rw[LY,ZL.out] at x;have D3:=ae x;have B3:=ae R;clear x R th ZL ro B2 ZS z kw L;have k3:=(B3.cell (p:=(Q w.heap.size 0 Y)) D).trans k1;have hz3:w.heap.size<w3.heap.size:=lj D B3.size;go_wp2;clear k3;go_loopw [18] (λi wr=>∃k:Nat,k<=n/\i=N I k/\Hid ((aN f n k).length<=300000∨k=0)/\Hid (Bw wr c.heap.size c.heap.size (aN f n k))/\Hid (Below c.heap.size c wr)) (λi _=>n - (intOf i).toNat);case atStart=>exact⟨0,by omega,rfl,.inr rfl,D3,B3⟩
  case round =>
   obtain⟨k,hk,rfl,HS,HD,s⟩:=hrel;have hlk:=bt.out k hk;have RW:=ae (g.trans (s.mono g.size));by_cases C:k<n
   ·have hlt2:(k:Int)<n:=by omega
    obtain⟨o0,o1,o2,o3,⟨a0,n9,o4,q4⟩,⟨a1,mv,o5,q5⟩⟩:=(G.aa s ly).2 k C;obtain⟨-,-,-,-,⟨E,j,V,ZK⟩,⟨B,l,X,ZP⟩⟩:=G.2 k C;have e4:=((s.cell (p:=(Q b (off+k*6+4) Y)) G.1).trans V).symm.trans o4;have e5:=((s.cell (p:=(Q b (off+k*6+5) Y)) G.1).trans X).symm.trans o5;obtain⟨rfl,rfl⟩:E=a0/\j=n9:=by simpa using e4
    obtain⟨rfl,rfl⟩:B=a1/\l=mv:=by simpa using e5
    have WR:=ae (EY ph C ZK ZP);have AD:=ae ((q9 wr).alloc ly (J #[U (f k).e,N I (f k).m,N I (f k).E,U (f k).B,Z E (f k).f j,Z B (f k).b l] 46));have RD:=ae (s.trans (AD.mono s.size));have DD:=ae (HD.aa AD ly);clear q4 q5 ZK ZP V X e4 e5;go_wp2_with fail;clear o0 o1 o2 o3 o4 o5;refine(E9 c c.heap.size _ (f k) E j B l _ RD DD ur la ZQ WR (by omega)).mono ?_;rintro e w5 ⟨rfl,O,S,sm⟩;have D5:Hid (Bw w5 c.heap.size c.heap.size (aN f n (k+1))):=O;have B5:=ae S;have Bk:=bt.out (k+1) (by omega);clear O S sm AD RD DD;go_wp2_with fail;refine(EW _ _ _ _ D5).mono ?_;rintro e w6 ⟨rfl,rfl⟩;generalize ZO:(aN f n (k+1)).length=L5 at Bk ⊢;have fd:=ae ZO;clear ZO;by_cases ld:(300000:Int)<(L5:Int)
    ·obtain rfl:ZM=[]:=by
      have h2:=oy (f:=f) (n:=n) (show k+1<=n by omega);rw[fd.out] at h2;have h3:¬ (aN f n n).length<=300000:=by generalize (aN f n n).length=ZR at h2 ⊢;omega
      rw[HF.out,gM h3]
     go_wp2;go_ret;exact⟨rfl,g.trans (B5.mono g.size)⟩
    ·have aq:L5<=300000:=Dz ld;have At:Hid ((aN f n (k+1)).length<=300000∨k+1=0):=by show _∨_;rw[fd.out];exact Or.inl aq
     clear aq;go_wp2;exact⟨⟨k+1,by omega,by go_num,At,D5,B5⟩,by simp[intOf];omega⟩
   ·obtain rfl:k=n:=by omega
    obtain rfl:ZM=aN f k k:=by have h1:(aN f k k).length<=300000:=HS.resolve_right (by omega);rw[HF.out,p6 h1]
    go_wp2_with fail;refine(xk _ _ _ _ HD (Bc _ _ _)).mono ?_;rintro e w6 ⟨rfl,P⟩;have B6:=ae (s.trans P);clear P;go_wp2;go_ret;exact⟨rfl,g.trans (B6.mono g.size)⟩
attribute [local go_sem] TO
theorem qL:∀(n:Nat) (s:List UInt8),s.length<=n->(∀l∈aL s,(10:UInt8) ∉ l/\l.length<=s.length)/\(aL s).length<=s.length+1:=by
 intro n;induction n with
 |zero =>
  intro s h;obtain rfl:s=[]:=PT.1 (by omega);refine⟨λl b=>?_,by simp[aL]⟩;have:l=[]:=by simpa[aL] using b
  rw[this];simp
 |succ n g =>
  intro s h;rw[lS s];obtain⟨h1,h2⟩:=fq 10 s;have h3:=cy 10 s;by_cases c:(af 10 s).2.2=ZG;{rw[p6 c];have h4:=rZ c;obtain⟨f,h6⟩:=g (af 10 s).2.1 (by omega);refine⟨λl b=>?_,by simp only[eL];omega⟩;rcases AT.1 b with rfl|b;{exact⟨h1,h3.1⟩};{exact⟨(f l b).1,by have:=(f l b).2;omega⟩}};{rw[gM c] at h2 ⊢;refine⟨λl b=>?_,by simp⟩;rw[nD.1 b];exact⟨by rw[h2];exact h1,n6 _⟩}
theorem wk:∀{b:List (List UInt8)} {x:List UInt8 × Bool},x∈dG b->x.1∈b
 |[],x,h=>by simp[dG] at h
 |[l],x,h=>by
  by_cases c:l=[]
  ·subst c;simp[dG] at h
  ·simp[dG,c] at h;subst h;simp
 |l::f::b,x,h=>by
  rcases AT.1 (show x∈(l,ZG)::dG (f::b) from h) with rfl|h
  ·simp
  ·exact mq _ (wk h)
theorem ws:∀b:List (List UInt8),(dG b).length<=b.length
 |[]=>n6 _
 |[l]=>by
  by_cases f:l=[]
  ·subst f;simp[dG]
  ·simp[dG,f]
 |l::c::b=>by have:=ws (c::b);show((l,ZG)::dG (c::b)).length<=_;simp only[eL] at this ⊢;omega
theorem IW {x:List UInt8 × Bool}(h:(10:UInt8) ∉ x.1):Lib.trimSuffix (pcB x) [10]=x.1:=by
 obtain⟨l,b⟩:=x;cases b with
 |true =>show Lib.trimSuffix (l++[10]) [10]=l;simp[Lib.trimSuffix,Lib.hasSuffix]
 |false =>
  show Lib.trimSuffix l [10]=l;unfold Lib.trimSuffix Lib.hasSuffix;split;{rename_i c;exfalso;refine h ?_;show(10:UInt8)∈l;simp at c;exact c.subset (by simp)};{rfl}
structure FmB (W:M)(h:Nat)(S:List UInt8):Prop where
 size:W.heap.size=h+4
 p:W.heap[h]?=T (J #[Z Y 0 0] 37 (0,0))
 q:W.heap[h+1]?=T (J #[.nilIface] 207 (0,0))
 r:RdB W (h+2) (Z Y 0 0)
 s:SBxR W (h+3) S
theorem Gn (w:M)(s:ByteArray):FmB ((((A w (J #[Z Y 0 0] 37)).alloc (J #[.nilIface] 207)).alloc (J #[Z Y 0 0] 268)).alloc (J #[U s] 9)) w.heap.size s.data.toList:=by
 have n1:(A w (J #[Z Y 0 0] 37)).heap.size=w.heap.size+1:=by simp
 have c:((A w (J #[Z Y 0 0] 37)).alloc (J #[.nilIface] 207)).heap.size=w.heap.size+2:=by simp
 have b:(((A w (J #[Z Y 0 0] 37)).alloc (J #[.nilIface] 207)).alloc (J #[Z Y 0 0] 268)).heap.size=w.heap.size+3:=by simp
 have f:=nL w (J #[Z Y 0 0] 37);have h1:=nL (A w (J #[Z Y 0 0] 37)) (J #[.nilIface] 207);have h2:=nL ((A w (J #[Z Y 0 0] 37)).alloc (J #[.nilIface] 207)) (J #[Z Y 0 0] 268);have h3:=nL (((A w (J #[Z Y 0 0] 37)).alloc (J #[.nilIface] 207)).alloc (J #[Z Y 0 0] 268)) (J #[U s] 9);rw[n1] at h1;rw[c] at h2;rw[b] at h3;refine⟨by simp,?_,?_,?_,h3⟩;{rw[QR _ _ (by rw[b];omega),QR _ _ (by rw[c];omega),QR _ _ (by rw[n1];omega)];exact f};{rw[QR _ _ (by rw[b];omega),QR _ _ (by rw[c];omega)];exact h1};{show _=_;rw[QR _ _ (by rw[b];omega)];exact h2}
theorem RSt.itx {w j:M}{b f bx n:Nat}{v:ZC}{R:List DR}(h:RSt w b f v R)(hi:Itx bx n w j)(hb:b<n)(hx:bx<f)(i:b≠bx):RSt j b f v R:=by
 have g:∀k,Of3 w k->k<w.heap.size/\iz w k:=λk h3=>by rcases h3 with ⟨c,z,h3⟩|⟨c,z,h3⟩|⟨c,z,h3⟩<;>exact⟨(eT.1 h3).1,_,_,_,h3⟩
 refine⟨(hi.keep b h.ab.lt i (.inl hb)).trans h.ab,h.row.ad λk l hbk=>?_,h.lt,p7 h.le hi.size⟩;obtain⟨h1,h2⟩:=g k l;exact hi.keep k h1 (by omega) (.inr h2)
theorem ti {bx n m:Nat}{w b:M}(h:Itx bx n w b)(hm:m<=n)(hx:m<=bx)(hz:m<=w.heap.size):Below m w b:=⟨h.os,h.tape,h.output,h.size,λk hk=>h.keep k (by omega) (by omega) (.inl (by omega))⟩
theorem eK {w:M}{k:Nat}{v:ZC}{t:ZI}(h:w.heap[k]?=T (J #[v] t (0,0))):w.cell? (Q k 0 Y)=T v/\w.frozen? (Q k 0 Y)=ZA:=⟨by rw[HU h];rfl,PC h 0⟩
theorem tj {w:M}{h:Nat}{a b:ZC}{t u:ZI}(h1:w.heap[h]?=T (J #[a] t (0,0)))(h2:w.heap[h+1]?=T (J #[b] u (0,0)))(v c:ZC):((w.setCell (Q h 0 Y) v).setCell (Q (h+1) 0 Y) c).heap[h]?=T (J #[v] t (0,0))/\((w.setCell (Q h 0 Y) v).setCell (Q (h+1) 0 Y) c).heap[h+1]?=T (J #[c] u (0,0)):=by
 refine⟨?_,?_⟩;{rw[qh _ _ _ _ (by show h≠h+1;omega)];simp[World.setCell,CP,h1]};{have e:(w.setCell (Q h 0 Y) v).heap[h+1]?=T (J #[b] u (0,0)):=(qh _ _ _ _ (by show h+1≠h;omega)).trans h2;generalize w.setCell (Q h 0 Y) v=V at e ⊢;simp[World.setCell,CP,e]}
end Go.Proofs.YtpmnbjkjpnclaaaGreatDoor.Vp
namespace Go.Proofs.YtpmnbjkjpnclaaaGreatDoor.Ca
open RowKit
theorem Bdx.set {bx:Nat}{w b:M}(h:Bdx bx w b){p:Addr}(f:p.block≠bx)(g:iz w p.block)(v:ZC):Bdx bx w (b.setCell p v) :=
 ⟨by simpa[World.setCell] using h.size,(Below.heap_setCell _ _ _ _ (λe=>f e.symm)).trans h.ab,λk c hn=>(Below.heap_setCell _ _ _ _ (λe=>hn (by rw[show k=p.block from e];exact g))).trans (h.keep k c hn)⟩
end Go.Proofs.YtpmnbjkjpnclaaaGreatDoor.Ca
namespace Go.Proofs.YtpmnbjkjpnclaaaGreatDoor.Vp
open RowKit Go.Shelf Ca
attribute [local go_sem] TO
theorem KR.bdx2 {b f bx:Nat}{w g:M}(h:KR b f w g)(j:bx≠b)(l:bx<w.heap.size)(n:bx<f)(hb:iz w b):Bdx bx w g :=
 ⟨h.size,h.keep bx l j (.inl n),λk m i=>h.keep k m (λe=>i (e ▸ hb)) (.inr λh3=>i (by
  rcases h3 with ⟨c,z,h3⟩|⟨c,z,h3⟩|⟨c,z,h3⟩<;>exact⟨_,_,_,h3⟩))⟩
theorem wu (s:ByteArray)(w:M)(hs:s.size<=300000)(hL:Lay w)(g:EV w 3):Calls Pg 137 #[U s] w λe ZP=>Below w.heap.size w ZP/\((∃a c R,e=ZF (.tuple #[ZH #[Z a R.length c],.nilIface])/\DRow ZP (w.heap.size+4) (Z a R.length c) R/\SzD 300001 (R.map (·.1))/\∀E,bB [] (tL (aL s.data.toList)) E->R.map (·.1)=E)∨((∀E,¬ bB [] (tL (aL s.data.toList)) E)/\∃ty p,e=ZF (.tuple #[ZH #[Z Y 0 0],.iface ty p]))):=by
 refine(VB (n:=3)).1 ?_;have L0:=ae hL;have E0:=ae g;have ZK:=((((q9 w).alloc ly (J #[Z Y 0 0] 37)).alloc (by simp) (J #[.nilIface] 207)).alloc (by simp;omega) (J #[Z Y 0 0] 268)).alloc (by simp;omega) (J #[U s] 9);have A0:=ae ZK;clear ZK;have D:=ae (Gn w s);obtain⟨S,hS⟩:∃S,S=s.data.toList:=⟨_,rfl⟩
 have hSl:S.length<=300000:=by rw[hS,aO];exact hs
 rw[<-hS] at D ⊢;clear hS;have LA:=ae (qL S.length S ly);obtain⟨ZN,L⟩:∃ZN,ZN=dG (aL S):=⟨_,rfl⟩
 have QM:Hid (∀x∈ZN,(10:UInt8) ∉ x.1/\x.1.length<=300000):=λx hx=>by rw[L] at hx;have:=LA.1 _ (wk hx);exact⟨this.1,by omega⟩
 have QL:ZN.length<=300001:=by have h1:=ws (aL S);have h2:=LA.2;rw[L];omega
 have QF:Hid (ZN.map (·.1)=tL (aL S)):=by show _=_;rw[L,wj]
 rw[<-QF.out];have HQ:=ae L;clear L LA QF;clear hL g;refine callsIn_of_wp_marks Tryz.func137 rfl trivial ?_ rfl;simp only[Tryz.ntmps137,CV,eL,nX,Nat.reduceAdd,Nat.reduceSub,QG,QH,Q0,QN,LY,IN];gi_wp2_with (refine⟨trivial,?_⟩;gi_at_call 192;refine(Gm _ _ _).mono ?_;rintro e ZP ⟨rfl,rfl⟩);generalize (((A w (J #[Z Y 0 0] 37)).alloc (J #[.nilIface] 207)).alloc (J #[Z Y 0 0] 268)).alloc (J #[U s] 9)=W at A0 D ⊢;have hsz:=D.size;have SQ:=ae (Dy S (by omega) (w.heap.size+3) (3 - 1) W D.s);rw[<-HQ.out] at SQ;refine oQ (bx:=w.heap.size+3) (F:=Fence.wide) rfl (by omega) (gf:=242) (lb:=#[.pointer (T (Q (w.heap.size+3) 0 Y))]) rfl trivial (enters_of Tryz.func242 (by kernel_rfl) rfl) (by omega) SQ br (λ_=>rfl)
  (λpre o=>∃a c R,Hid (RSt o (w.heap.size+2) (w.heap.size+4) (Z a R.length c) R)/\Hid (SzD pre.length (R.map (·.1)))/\Hid (∀t E,pre++t=ZN->bB [] (ZN.map (·.1)) E->bB (R.map (·.1)) (t.map (·.1)) E)/\Hid (o.heap[w.heap.size]?=T (J #[Z Y 0 0] 37 (0,0))/\o.heap[w.heap.size+1]?=T (J #[.nilIface] 207 (0,0)))/\Hid (Below w.heap.size w o))
  (λc pre o=>c=.ret/\∃ty p,Hid (o.heap[w.heap.size]?=T (J #[Z Y 0 0] 37 (0,0))/\o.heap[w.heap.size+1]?=T (J #[.iface ty p] 207 (0,0)))/\Hid (∀E,¬ bB [] (ZN.map (·.1)) E)/\Hid (Below w.heap.size w o))
  (λpre ZS C h m=>by
   obtain⟨a,c,R,h1,h2,h3,h4,h5⟩:=h;have l1:=(eT.1 h4.1).1;have l2:=(eT.1 h4.2).1
   exact⟨a,c,R,h1.itx m (by omega) (by omega) (by omega),h2,h3,⟨(m.keep _ l1 (by omega) (.inl (by omega))).trans h4.1,(m.keep _ l2 (by omega) (.inl (by omega))).trans h4.2⟩,h5.trans (ti m (by omega) (by omega) h5.size)⟩)
  (λc pre ZS C h m=>by
   obtain⟨h0,ty,p,h1,h2,h3⟩:=h;have l1:=(eT.1 h1.1).1;have l2:=(eT.1 h1.2).1
   exact⟨h0,ty,p,⟨(m.keep _ l1 (by omega) (.inl (by omega))).trans h1.1,(m.keep _ l2 (by omega) (.inl (by omega))).trans h1.2⟩,h2,h3.trans (ti m (by omega) (by omega) h3.size)⟩)
  ⟨Y,0,[],⟨D.r,cA _ _,by omega,by omega⟩,SzD.nil _,λt E ZQ g=>by rw[LY] at ZQ;rw[ZQ];exact g,⟨D.p,D.q⟩,A0⟩
  (λx=>{ tmps:=#[U s,undef,.pointer (T (Q w.heap.size 0 Y)),.pointer (T (Q (w.heap.size+1) 0 Y)),.pointer (T (Q (w.heap.size+1+1) 0 Y)),U ⟨(pcB x).toArray⟩,undef,U s,.func (.func 242) #[] #[.pointer (T (Q (w.heap.size+3) 0 Y))],U ⟨(pcB x).toArray⟩,undef,undef,undef,undef,undef,undef,undef,undef,undef],defers:=[] }) ?assign ?body ?done ?stop
 case assign =>intro l x W K b;gi_wp2;exact b
 case body =>
  rintro l pre x j i ⟨a,c,R,hR,hZ,P,f,u⟩ hz;have i:pre++[x] <+: ZN:=i;have ZJ:=QM.out x (i.subset (by simp));have hpl:=i.length_le;rw[cM,DW] at hpl;have fd:=ae i;have hpb:(pcB x).length<=300001:=by
   unfold pcB;split;{rw[cM,DW];omega};{omega}
  have TS:Hid (∀V,CallsIn Fence.wide 0 Pg 194 #[U ⟨(pcB x).toArray⟩,U ⟨#[10]⟩] V λe ZP=>e=ZF (U ⟨x.1.toArray⟩)/\ZP=V):=λV=>by have h:=Tryz.strings_TrimSuffix ⟨(pcB x).toArray⟩ ⟨#[10]⟩ V (by show(pcB x).toArray.size<=_;rw[CV];omega);rw[show Lib.trimSuffix (⟨(pcB x).toArray⟩:ByteArray).data.toList (⟨#[10]⟩:ByteArray).data.toList=x.1 from IW ZJ.1] at h;exact VB.2 h
  have RL:=ae (vH (w.heap.size+2) (w.heap.size+4) pre.length a c R ⟨x.1.toArray⟩ j hR hZ (by omega) (by show x.1.length<=300000;exact ZJ.2) (L0.aa u ly) (E0.aa u E0.1));clear i;gi_wp2_with fail;refine⟨trivial,((TS _).inRound l).mono ?_⟩;rintro e V ⟨rfl,hV⟩;rw[hV];clear hV TS;gi_wp2_with fail;refine⟨trivial,((VB.2 RL).inRound l).mono ?_⟩;rintro e W2 ⟨b,hN⟩;have K2:=ae b;have B:Hid (W2.heap[w.heap.size]?=T (J #[Z Y 0 0] 37 (0,0))/\W2.heap[w.heap.size+1]?=T (J #[.nilIface] 207 (0,0))):=⟨(b.keep _ (by omega) (by omega) (.inl (by omega))).trans f.1,(b.keep _ (by omega) (by omega) (.inl (by omega))).trans f.2⟩
  have X2:Hid (Bdx (w.heap.size+3) j W2):=b.bdx2 (by omega) (by omega) (by omega) ⟨_,_,_,hR.ab⟩;have B2:=ae (u.trans (b.aa (n:=w.heap.size) (by omega) (by omega) u.size));have z2:=b.size;clear b RL;rcases hN with ⟨a',c',R',rfl,bt,aq,dg⟩|⟨H,ty,p,rfl⟩
  {have R2:=ae bt;have Z2:=ae aq;have G2:=ae (show ∀G,Good (R.map (·.1)) x.1 G->R'.map (·.1)=G from dg);clear bt aq dg;gi_wp2;refine⟨X2,a',c',R',R2,by rw[cM];exact Z2,λt E ZQ g=>?_,B,B2⟩;have h1:=P.out (x::t) E (by rw[<-ZQ];simp) g;obtain⟨G,h2,h3⟩:=h1;rw[G2.out G h2];exact h3}
  ·have H:∀G,¬ Good (R.map (·.1)) x.1 G:=H;have NO:Hid (∀E,¬ bB [] (ZN.map (·.1)) E):=λE g=>by obtain⟨t,ZQ⟩:=fd.out;obtain⟨G,h2,_⟩:=P.out (x::t) E (by rw[<-ZQ];simp) g;exact H G h2
   clear H;have ca:=(eK B.1).1;have fa:=(eK B.1).2;have cb:=(eK B.2).1;have fb:=(eK B.2).2;have ZO:=ae (tj B.1 B.2 (Z Y 0 0) (.iface ty p));have X3:=ae ((X2.set (p:=(Q w.heap.size 0 Y)) (by show w.heap.size≠w.heap.size+3;omega) ⟨_,_,_,f.1⟩ (Z Y 0 0)).set (p:=(Q (w.heap.size+1) 0 Y)) (by show w.heap.size+1≠w.heap.size+3;omega) ⟨_,_,_,f.2⟩ (.iface ty p));have O:=ae ((B2.setCell (p:=(Q w.heap.size 0 Y)) ly (Z Y 0 0)).setCell (p:=(Q (w.heap.size+1) 0 Y)) (F6 _) (.iface ty p));gi_wp2;exact⟨X3,rfl,ty,p,ZO,NO,O⟩
 case done =>rintro ZM ys j X rfl ⟨a,c,R,hR,hZ,P,f,u⟩ b;have ca:=(eK f.1).1;have fa:=(eK f.1).2;have cb:=(eK f.2).1;have fb:=(eK f.2).2;have cr:=hR.ab.c0;have ZO:=ae (tj f.1 f.2 (Z a R.length c) .nilIface);have O:=ae ((u.setCell (p:=(Q w.heap.size 0 Y)) ly (Z a R.length c)).setCell (p:=(Q (w.heap.size+1) 0 Y)) (F6 _) .nilIface);have D3:=ae ((hR.row.set (p:=(Q w.heap.size 0 Y)) (e:=0) (.inl (by show w.heap.size<w.heap.size+4;omega)) (Z a R.length c)).set (p:=(Q (w.heap.size+1) 0 Y)) (e:=0) (.inl (by show w.heap.size+1<w.heap.size+4;omega)) .nilIface);have ZL:=ae ((KeepsOthers.setCell (j.setCell (Q w.heap.size 0 Y) (Z a R.length c)) (Q (w.heap.size+1) 0 Y) .nilIface).same ZM _ ((KeepsOthers.setCell j (Q w.heap.size 0 Y) (Z a R.length c)).same ZM _ b rfl) rfl);have zz:W.heap.size<=ZM:=X;gi_wp2;generalize (j.setCell (Q w.heap.size 0 Y) (Z a R.length c)).setCell (Q (w.heap.size+1) 0 Y) .nilIface=V3 at ZO O D3 ZL ⊢;refine⟨by simp,.inl ⟨_,_,rfl,run_takeDeferred ZL,?_⟩⟩;have y:=da (n:=W.heap.size) V3 X (eT.1 ZL).1 (.deferred Y);have c1:=(y.cell (p:=(Q w.heap.size 0 Y)) (by show w.heap.size<W.heap.size;omega)).trans (eK ZO.1).1;have c2:=(y.cell (p:=(Q (w.heap.size+1) 0 Y)) (by show w.heap.size+1<W.heap.size;omega)).trans (eK ZO.2).1;refine⟨.tuple #[ZH #[Z a R.length c],.nilIface],by simp[results,Tryz.results137,go_sem,c1,c2],O.trans (y.mono (by omega)),.inl ⟨a,c,R,rfl,?_,hZ.up QL,λE g=>P [] E (by simp) g⟩⟩;refine D3.ad λk ZR _=>World.putObj_heap_other λe=>?_;subst e;rcases ZR with ⟨x,z,ZR⟩|⟨x,z,ZR⟩|⟨x,z,ZR⟩<;>(have:=ZL.symm.trans ZR;cases this)
 case stop =>rintro ZM c pre j X hpre ⟨rfl,ty,p,f,HO,u⟩ b;gi_wp2;refine⟨by simp,.inl ⟨_,_,rfl,run_takeDeferred b,?_⟩⟩;have y:=da (n:=W.heap.size) j X (eT.1 b).1 (.deferred Y);have c1:=(y.cell (p:=(Q w.heap.size 0 Y)) (by show w.heap.size<W.heap.size;omega)).trans (eK f.1).1;have c2:=(y.cell (p:=(Q (w.heap.size+1) 0 Y)) (by show w.heap.size+1<W.heap.size;omega)).trans (eK f.2).1;exact⟨.tuple #[ZH #[Z Y 0 0],.iface ty p],by simp[results,Tryz.results137,go_sem,c1,c2],u.trans (y.mono (by omega)),.inr ⟨HO,ty,p,rfl⟩⟩
def AcR (w:M)(b:Nat)(v:ZC):Prop:=w.heap[b]?=T (J #[v] 37 (0,0))
theorem AcR.lt {w:M}{b:Nat}{v:ZC}(h:AcR w b v):b<w.heap.size:=(eT.1 h).1
theorem AcR.c0 {w:M}{b:Nat}{v:ZC}(h:AcR w b v):w.cell? (Q b 0 Y)=T v:=by rw[HU h];rfl
theorem AcR.fz {w:M}{b:Nat}{v:ZC}(h:AcR w b v)(j:Nat):w.frozen? (Q b j Y)=ZA:=PC h j
theorem AcR.aa {w c:M}{b B:Nat}{v:ZC}(h:AcR w b v)(hb:Below B w c)(f:b<B):AcR c b v:=(hb.block b f).trans h
theorem AcR.set {w:M}{b:Nat}{v:ZC}(h:AcR w b v)(c:ZC):AcR (w.setCell (Q b 0 Y) c) b c:=by unfold AcR at *;simp[World.setCell,CP,h]
theorem xF:(Pg.info? 37).map (·.size)=T 1:=by kernel_rfl
theorem dl {fn:Func}{p u:Tmp}(h:fn.results=#[.cell p 37,.tmp u])(tmps:Array ZC)(w:M)(g:Nat)(v:ZC)(b:tmps.getD p undef=.pointer (T (Q g 0 Y)))(c:AcR w g v):(results fn tmps).run Pg w=.ok (.tuple #[ZH #[v],tmps.getD u undef]) w:=by rw[results_cell_tmp h,b];simp[asAddr,run_loadVar_row w g 37 37 #[v] (0,0) _ c Tryz.underlying37 rfl xF,Result.andThen]
def eA (w:M)(S:List UInt8)(e:Ending)(b:M):Prop :=
 ∃(r:Option (List Deed)) (a:Option Addr) (c:Nat) (R:List DR),jp S r/\e=ZF (.tuple #[ZH #[Z a R.length c],ZD r.isSome])/\DRow b w.heap.size (Z a R.length c) R/\R.map (·.1)=r.getD []/\SzD 300001 (R.map (·.1))/\Below w.heap.size w b
theorem wv {w:M}{b size n c:Nat}{e:ZI}{a:Option Addr}{g:List ZC}(h:w.ownsRow b e size (Z a n c) n g):n<=c:=by
 rcases h.2 with ⟨f,h0⟩|⟨g',cap,cur,f,hb,hg,h1,_⟩
 ·cases f
  exact n6 _
 ·cases f
  exact h1
theorem Ax (s:ByteArray)(w:M)(r:s.size<=maxLen)(hn:s.data.toList=[]∨300000<s.size):Calls Pg 78 #[U s] w λe o=>eA w s.data.toList e o:=by
 have j:Hid (jp s.data.toList Y):=gL λf n h=>by
  rcases hn with h1|h1;{exact h1};{have:=lY h;rw[aO] at this;omega}
 have c:=ae ((q9 w).alloc ly (J #[Z Y 0 0] 37));have b:Hid (AcR (A w (J #[Z Y 0 0] 37)) w.heap.size (Z Y 0 0)):=nL w _;unfold maxLen at r;unfold eA;generalize i:s.data.toList=S at j hn ⊢;rcases hn with hn|hn
 ·have m:s=⟨#[]⟩:=by
   refine ON (QZ ?_);rw[i,hn]
  subst m;clear i;go_enter Tryz.func78,Tryz.ntmps78;go_upto_region 1 with fail;generalize A w (J #[Z Y 0 0] 37)=W at c b ⊢;have c0:=b.c0;have f0:=b.fz 0;have q:=b.lt;have g:=ae (b.set (Z Y 0 0));have l:=ae (c.setCell (p:=(Q w.heap.size 0 Y)) ly (Z Y 0 0));go_wp2;try simp only[Exit.inBlock,Exit.then]
  refine bp (dl rfl _ _ w.heap.size _ rfl g) rfl ?_;exact⟨Y,Y,0,[],j,rfl,cA _ _,rfl,SzD.nil _,l⟩
 ·have hne:¬ s.toList=[]:=ja (by omega);have hp:300000<(s.size:Int):=by omega
  clear i;go_enter Tryz.func78,Tryz.ntmps78;go_upto_region 1 with fail;generalize A w (J #[Z Y 0 0] 37)=W at c b ⊢;have c0:=b.c0;have f0:=b.fz 0;have q:=b.lt;have g:=ae (b.set (Z Y 0 0));have l:=ae (c.setCell (p:=(Q w.heap.size 0 Y)) ly (Z Y 0 0));go_wp2;try simp only[Exit.inBlock,Exit.then]
  refine bp (dl rfl _ _ w.heap.size _ rfl g) rfl ?_;exact⟨Y,Y,0,[],j,rfl,cA _ _,rfl,SzD.nil _,l⟩
theorem xG (s:ByteArray)(w:M)(h0:0<s.size)(h3:s.size<=300000)(hL:Lay w)(ZP:EV w 3):Calls Pg 78 #[U s] w λe w'=>eA w s.data.toList e w':=by
 have RF:=ae (λV (P:Below w.heap.size w V)=>wu s V h3 (hL.aa P ly) (ZP.aa P ZP.1));have D:=ae (λV (P:Below w.heap.size w V)=>hL.aa P ly);have r:=ae ((q9 w).alloc ly (J #[Z Y 0 0] 37));have H:Hid (AcR (A w (J #[Z Y 0 0] 37)) w.heap.size (Z Y 0 0)):=nL w _;have dg:¬ s.toList=[]:=ja (by omega);have hie:s.toList.isEmpty=ZA:=by simpa using dg
 have hp:¬ 300000<(s.size:Int):=by omega
 have X:=ae (BG s);have C:s.data.toList≠[]:=λe=>by have:=wA List.length e;rw[aO,nX] at this;omega
 unfold eA;generalize hS:s.data.toList=S at RF X C ⊢;have HS:=ae hS;clear hL ZP hS;go_enter Tryz.func78,Tryz.ntmps78;go_upto_region 1 with fail;generalize A w (J #[Z Y 0 0] 37)=W at r H ⊢;have K:=H.lt;go_wp2_with fail;refine(RF W r).mono ?_;rintro e u ⟨l,hF⟩;rcases hF with ⟨a,c,R,rfl,hD,ZK,hG⟩|⟨ZM,ty,p,rfl⟩
 ·have x:=(q9 u).alloc ly (J #[Z a R.length c] 37);have G:=ae ((hD.aa x ly).mono (show w.heap.size+1<=W.heap.size+4 by omega));have b:=ae ((r.trans (l.mono r.size)).trans (x.mono (by have:=r.size;have:=l.size;omega)));have j:=ae (H.aa (l.trans (x.mono l.size)) K);have t:Hid (AcR (A u (J #[Z a R.length c] 37)) u.heap.size (Z a R.length c)):=nL u _;have ZJ:=ae ZK;have HG:=ae hG;have hcap:=wv hD.i;have hRl:R.length<=300001:=by have:=ZK.1;simpa using this
  clear x hD ZK hG l r H;go_upto_region 4 with fail;generalize A u (J #[Z a R.length c] 37)=m at G b j t ⊢;generalize u.heap.size=b4 at t ⊢;have c4:=t.c0;have l4:=t.lt;by_cases ZR:∃f n,bG f n=S
  ·obtain⟨f,n,ZN⟩:=ZR;have o:R.map (·.1)=nrm f n:=HG.out _ (nf ZN C);have bt:n=R.length:=by rw[<-lv f n,<-o];simp
   subst bt;have ZL:SlDeed m a R.length f:=by have h1:=G.am;rw[o] at h1;exact qb h1
   have ZS:=nV (f:=f) (n:=R.length) (k:=300001) (by rw[<-o];exact ZJ) (by omega);have y:=iy a R.length c f m (by omega) ZL (by omega) (λi hi=>(ZS i hi).1) (D m b).tb (D m b).tw (D m b).pw;rw[ZN] at y;have O:=ae (sC ZN C (λE ZP=>by rw[<-o];exact HG E ZP));have es:(⟨S.toArray⟩:ByteArray)=s:=by refine ON (QZ ?_);rw[HS.out]
   rw[es] at y;have z:=ae y;have aq:=ae o;clear y ZL ZS ZN es o;go_wp2_with fail;refine z.mono ?_;rintro e w3 ⟨rfl,g⟩;have D3:=ae (G.aa g ly);have A3:=ae (b.trans (g.mono b.size));have q:=ae (j.aa g j.lt);have C3:=ae (t.aa g t.lt);clear g z c4 l4 G b j t;have c4:=C3.c0;have l4:=C3.lt;have c0:=q.c0;have f0:=q.fz 0;have K:=q.lt;have ZO:=ae (q.set (Z a R.length c));have ZQ:=ae (A3.setCell (p:=(Q w.heap.size 0 Y)) ly (Z a R.length c));have D5:=ae ((D3.set (p:=(Q w.heap.size 0 Y)) (e:=0) (.inl (by show w.heap.size<w.heap.size+1;omega)) (Z a R.length c)).mono (show w.heap.size<=w.heap.size+1 by omega));go_wp2;try simp only[Exit.inBlock,Exit.then]
   refine bp (dl rfl _ _ w.heap.size _ rfl ZO) rfl ?_;exact⟨T (nrm f R.length),a,c,R,O,rfl,D5,aq,ZJ,ZQ⟩
  ·have B:∀f n,bG f n≠S:=λf n h=>ZR ⟨f,n,h⟩;have O:Hid (jp S Y):=gL λf n h=>absurd h (B f n);have ZS:=Bv ZJ.out (by omega);have y:=iy a R.length c (dF (R.map (·.1))) m (by omega) G.am (by omega) (λi hi=>(ZS i (by simpa using hi)).1) (D m b).tb (D m b).tw (D m b).pw;have L:=B (dF (R.map (·.1))) R.length;generalize bG (dF (R.map (·.1))) R.length=F at y L;have z:=ae y;have ne1:(F == S)=ZA:=by simpa using L
   clear y ZS ZR B;go_wp2_with fail;refine z.mono ?_;rintro e w3 ⟨rfl,g⟩;have A3:=ae (b.trans (g.mono b.size));have q:=ae (j.aa g j.lt);clear g z c4 l4 G b j t;have c0:=q.c0;have f0:=q.fz 0;have K:=q.lt;have ZO:=ae (q.set (Z Y 0 0));have ZQ:=ae (A3.setCell (p:=(Q w.heap.size 0 Y)) ly (Z Y 0 0));have e1:¬ F=s.toList:=by rw[X.out];exact L
   have e2:(F == s.toList)=ZA:=by simpa using e1
   go_wp2;try simp only[Exit.inBlock,Exit.then]
   refine bp (dl rfl _ _ w.heap.size _ rfl ZO) rfl ?_;exact⟨Y,Y,0,[],O,rfl,cA _ _,rfl,SzD.nil _,ZQ⟩
 ·have O:Hid (jp S Y):=gL λf n h=>UN λhq=>ZM _ (nf h hq);have x:=l.alloc l.size (J #[Z Y 0 0] 37);have b:=ae (r.trans (x.mono r.size));have j:=ae (H.aa x K);clear x l r H ZM;go_upto_region 4 with fail;generalize A u (J #[Z Y 0 0] 37)=m at b j ⊢;have c0:=j.c0;have f0:=j.fz 0;have K:=j.lt;have ZO:=ae (j.set (Z Y 0 0));have ZQ:=ae (b.setCell (p:=(Q w.heap.size 0 Y)) ly (Z Y 0 0));go_wp2;try simp only[Exit.inBlock,Exit.then]
  refine bp (dl rfl _ _ w.heap.size _ rfl ZO) rfl ?_;exact⟨Y,Y,0,[],O,rfl,cA _ _,rfl,SzD.nil _,ZQ⟩
theorem qM (s:ByteArray)(w:M)(f:s.size<=maxLen)(hL:Lay w)(c:EV w 3):Calls Pg 78 #[U s] w λe b=>eA w s.data.toList e b:=by
 by_cases h:s.data.toList=[]∨300000<s.size;{exact Ax s w f h};{refine xG s w ?_ (by omega) hL c;have h1:s.data.toList≠[]:=λe=>h (.inl e);have:=GC.2 h1;rw[aO] at this;exact this}
