import Derived.Test.YtpmnbjkjpnclaaaGreatDoorOC
set_option maxRecDepth 100000
set_option maxHeartbeats 4000000
set_option linter.unusedSimpArgs false
open Go renaming Addr.mk->Q,Value.slice->Z,Value.string->Y,Obj.cells->N,World->M,Ending.returned->ZF,World.heap->J,World.alloc->T,Proofs.Tryz.prog->Pg
open Option renaming none->U
open Bool renaming false->ZA
open Array renaming size->I
namespace Go.Proofs.YtpmnbjkjpnclaaaGreatDoor.Vp
open Tryz RowKit Ca
def wv (w:M)(S:List UInt8)(e:Ending)(b:M):Prop :=
 Below (I (J w)) w b/\∃a c R,e=ZF (.agg #[Z a R.length c])/\DRow b (I (J w)+2) (Z a R.length c) R/\SzD 300001 (R.map (·.1))/\∀E,bB [] (tL (aL S)) E->R.map (·.1)=E
theorem xG (s:ByteArray)(w:M)(r:s.size<=maxLen)(hn:s.data.toList=[]∨300000<s.size):Calls Pg 84 #[Y s] w λe o=>ez w s.data.toList e o:=by
 have j:Hid (jo s.data.toList U):=gJ λf n h=>by
  rcases hn with h1|h1;{exact h1};{have:=lX h;rw[aO] at this;omega}
 have c:=ae ((q9 w).alloc ly (N #[Z U 0 0] 37));have b:Hid (AcR (T w (N #[Z U 0 0] 37)) (I (J w)) (Z U 0 0)):=nL w _;unfold maxLen at r;unfold ez;generalize g:s.data.toList=S at j hn ⊢;rcases hn with hn|hn
 ·have m:s=⟨#[]⟩:=by
   refine N5 (QS ?_);rw[g,hn]
  subst m;clear g;go_enter func84,ntmps84;go_upto_region 1 with fail;generalize T w (N #[Z U 0 0] 37)=W at c b ⊢;have c0:=b.c0;have f0:=b.fz 0;have q:=b.lt;have l:=ae (b.set (Z U 0 0));have i:=ae (c.setCell (p:=(Q (I (J w)) 0 U)) ly (Z U 0 0));go_wp2;try simp only[Exit.inBlock,Exit.then]
  refine bp (dl rfl _ _ (I (J w)) _ rfl l) rfl ?_;exact⟨U,U,0,[],j,rfl,cA _ _,rfl,SzD.nil _,i⟩
 ·have hne:¬ s.toList=[]:=i8 (by omega);have hp:300000<(s.size:Int):=by omega
  clear g;go_enter func84,ntmps84;go_upto_region 1 with fail;generalize T w (N #[Z U 0 0] 37)=W at c b ⊢;have c0:=b.c0;have f0:=b.fz 0;have q:=b.lt;have l:=ae (b.set (Z U 0 0));have i:=ae (c.setCell (p:=(Q (I (J w)) 0 U)) ly (Z U 0 0));go_wp2;try simp only[Exit.inBlock,Exit.then]
  refine bp (dl rfl _ _ (I (J w)) _ rfl l) rfl ?_;exact⟨U,U,0,[],j,rfl,cA _ _,rfl,SzD.nil _,i⟩
theorem ww (s:ByteArray)(w:M)(h0:0<s.size)(h3:s.size<=300000)(LR:∀V,Calls Pg 143 #[Y s] V λe P=>wv V s.data.toList e P):Calls Pg 84 #[Y s] w λe P=>ez w s.data.toList e P:=by
 have ZI:=ae LR;unfold wv at ZI;have D:=ae ((q9 w).alloc ly (N #[Z U 0 0] 37));have ZP:Hid (AcR (T w (N #[Z U 0 0] 37)) (I (J w)) (Z U 0 0)):=nL w _;have aq:¬ s.toList=[]:=i8 (by omega);have hie:s.toList.isEmpty=ZA:=by simpa using aq
 have hp:¬ 300000<(s.size:Int):=by omega
 have K:=ae (BG s);have y:s.data.toList≠[]:=λe=>by have:=wA List.length e;rw[aO,nX] at this;omega
 unfold ez;generalize hS:s.data.toList=S at ZI K y ⊢;have HS:=ae hS;clear LR hS;go_enter func84,ntmps84;go_upto_region 1 with fail;generalize T w (N #[Z U 0 0] 37)=W at D ZP ⊢;have L:=ZP.lt;go_wp2_with fail;refine(ZI W).mono ?_;rintro e t ⟨r,a,c,R,rfl,hD,X,hG⟩
 ·have H:=(q9 t).alloc ly (N #[Z a R.length c] 37);have A:=ae ((hD.aa H ly).mono (show (I (J w))+1<=I (J W)+2 by omega));have u:=ae ((D.trans (r.mono D.size)).trans (H.mono (by have:=D.size;have:=r.size;omega)));have x:=ae (ZP.aa (r.trans (H.mono r.size)) L);have o:Hid (AcR (T t (N #[Z a R.length c] 37)) (I (J t)) (Z a R.length c)):=nL t _;have O:=ae X;have HG:=ae hG;have hRl:R.length<=300001:=by have:=X.1;simpa using this
  clear H hD X hG r D ZP;go_upto_region 4 with fail;generalize T t (N #[Z a R.length c] 37)=ZL at A u x o ⊢;generalize (I (J t))=b4 at o ⊢;have c4:=o.c0;have ZM:=o.lt;by_cases B:∃f n,bF f n=S
  ·obtain⟨f,n,G⟩:=B;have j:R.map (·.1)=nrm f n:=HG.out _ (mX G y);have bt:n=R.length:=by rw[<-lu f n,<-j];simp
   subst bt;have ZN:SlDeed ZL a R.length f:=by have h1:=A.ak;rw[j] at h1;exact pW h1
   have g:=nS (f:=f) (n:=R.length) (k:=300001) (by rw[<-j];exact O) (by omega);have q:=ig a R.length c f ZL (by omega) ZN (λi hi=>(g i hi).1) (λi hi=>(g i hi).2);rw[G] at q;have ZK:=ae (sw G y (λE hE=>by rw[<-j];exact HG E hE));have es:(⟨S.toArray⟩:ByteArray)=s:=by refine N5 (QS ?_);rw[HS.out]
   rw[es] at q;have m:=ae q;have dg:=ae j;clear q ZN g G es j;go_wp2_with fail;refine m.mono ?_;rintro e w3 ⟨rfl,b⟩;have D3:=ae (A.aa b ly);have ZO:=ae (u.trans (b.mono u.size));have l:=ae (x.aa b x.lt);have C3:=ae (o.aa b o.lt);clear b m c4 ZM A u x o;have c4:=C3.c0;have ZM:=C3.lt;have c0:=l.c0;have f0:=l.fz 0;have L:=l.lt;have ZQ:=ae (l.set (Z a R.length c));have ZJ:=ae (ZO.setCell (p:=(Q (I (J w)) 0 U)) ly (Z a R.length c));have D5:=ae ((D3.set (p:=(Q (I (J w)) 0 U)) (e:=0) (.inl (by show (I (J w))<I (J w)+1;omega)) (Z a R.length c)).mono (show (I (J w))<=I (J w)+1 by omega));go_wp2;try simp only[Exit.inBlock,Exit.then]
   refine bp (dl rfl _ _ (I (J w)) _ rfl ZQ) rfl ?_;exact⟨some (nrm f R.length),a,c,R,ZK,rfl,D5,dg,O,ZJ⟩
  ·have z:∀f n,bF f n≠S:=λf n h=>B ⟨f,n,h⟩;have ZK:Hid (jo S U):=gJ λf n h=>absurd h (z f n);have g:=Bq O.out (by omega);have q:=ig a R.length c (dF (R.map (·.1))) ZL (by omega) A.ak (λi hi=>(g i (by simpa using hi)).1) (λi hi=>(g i (by simpa using hi)).2);have C:=z (dF (R.map (·.1))) R.length;generalize bF (dF (R.map (·.1))) R.length=F at q C;have m:=ae q;have ne1:(F == S)=ZA:=by simpa using C
   clear q g B z;go_wp2_with fail;refine m.mono ?_;rintro e w3 ⟨rfl,b⟩;have ZO:=ae (u.trans (b.mono u.size));have l:=ae (x.aa b x.lt);clear b m c4 ZM A u x o;have c0:=l.c0;have f0:=l.fz 0;have L:=l.lt;have ZQ:=ae (l.set (Z U 0 0));have ZJ:=ae (ZO.setCell (p:=(Q (I (J w)) 0 U)) ly (Z U 0 0));have e1:¬ F=s.toList:=by rw[K.out];exact C
   have e2:(F == s.toList)=ZA:=by simpa using e1
   go_wp2;try simp only[Exit.inBlock,Exit.then]
   refine bp (dl rfl _ _ (I (J w)) _ rfl ZQ) rfl ?_;exact⟨U,U,0,[],ZK,rfl,cA _ _,rfl,SzD.nil _,ZJ⟩
theorem rR (s:ByteArray)(w:M)(c:s.size<=maxLen)(f:s.size<=300000->∀V,Calls Pg 143 #[Y s] V λe b=>wv V s.data.toList e b):Calls Pg 84 #[Y s] w λe b=>ez w s.data.toList e b:=by
 by_cases h:s.data.toList=[]∨300000<s.size;{exact xG s w c h};{refine ww s w ?_ (by omega) (f (by omega));have h1:s.data.toList≠[]:=λe=>h (.inl e);have:=GC.2 h1;rw[aO] at this;exact this}
theorem nG (a:Option Addr)(n cap:Nat)(f:Nat->Deed)(b:ByteArray)(w:M)(hn:(n:Int)<=1048576)(hk:(b.size:Int)<=1048576)(y:SlDeed w a n f)(s:(n:Int)<=cap)(l:∀i,i<n->cV (f i))(m:Tab w)(q:TabW w)(x:Pow w)(G:Deb w)(D:10<I (J w)):Calls Pg 23 #[.agg #[Z a n cap],Y b] w λe r=>e=ZF (Y (df ⟨(bF f n).toArray⟩ b))/\Below (I (J w)) w r:=by
 have g:=ae ((q9 w).alloc (n6 (I (J w))) (N #[Z a n cap] 37));have o:=ae (iu a n cap f (T w (N #[Z a n cap] 37)) hn (y.aa g ly) s l (m.aa g m.1) (q.aa g m.1) (x.aa g ly));have H:=ae G;have ZN:=qL f n;clear y l m q x G;obtain⟨C,z⟩:∃C:ByteArray,(⟨(bF f n).toArray⟩:ByteArray)=C:=⟨_,rfl⟩
 rw[z] at ZN o ⊢;clear z;by_cases hz:C.toList=[]
 ·have h:df C b=⟨#[]⟩:=by simp[df,hz]
  rw[h];clear h;go_enter func23,ntmps23;go_wp2_with fail;refine o.mono ?_;rintro e t ⟨rfl,c⟩;have j:=ae (g.trans (c.mono g.size));clear c;go_wp2;go_ret;exact⟨rfl,j⟩
 have hze:C.toList.isEmpty=ZA:=by simpa using hz
 by_cases B:60<b.size
 ·have h:df C b=⟨#[]⟩:=by simp[df,B]
  rw[h];clear h;go_enter func23,ntmps23;go_wp2_with fail;refine o.mono ?_;rintro e t ⟨rfl,c⟩;have j:=ae (g.trans (c.mono g.size));clear c;go_wp2;go_ret;exact⟨rfl,j⟩
 have hld:decide (60<(b.size:Int))=ZA:=by simp;omega
 have h:df C b=⟨(eG C b).toArray⟩++C:=by simp[df,B,hz]
 rw[h];have A:=jE C b;have ZP:¬ 9223372036854775807<17+C.size:=by omega
 clear h;have SO:Hid (∀W:M,Deb W->10<I (J W)->Calls Pg 75 #[Y C,Y b] W λe r=>e=ZF (Y ⟨(eG C b).toArray⟩)/\Below (I (J W)) W r):=λW h1 h2=>qK C b W (by omega) (by omega) h1 h2;generalize (⟨(eG C b).toArray⟩:ByteArray)=ZL at A SO ⊢;have ZP:¬ 9223372036854775807<ZL.size+C.size:=by omega
 go_enter func23,ntmps23;go_wp2_with fail;refine o.mono ?_;rintro e t ⟨rfl,c⟩;have j:=ae (g.trans (c.mono g.size));have F:Hid (Deb t):=(j.cell (p:=(Q 10 15 U)) D).trans H;have u:=lj D j.size;clear c;go_wp2_with fail;refine(SO _ F u).mono ?_;rintro e w2 ⟨rfl,c⟩;have E:=ae (j.trans (c.mono j.size));clear c;go_wp2;go_ret;exact⟨rfl,E⟩
theorem lH {a b:ByteArray}(h:a.data.toList=b.data.toList):a=b:=N5 (QS h)
theorem ext_list (s:ByteArray)(i j:Nat):(s.extract i j).data.toList=(s.data.toList.drop i).take (j - i):=by simp[PH,P6,PC]
theorem pE (s:ByteArray):(s.extract 17 s.size).data.toList=s.data.toList.drop 17:=by rw[ext_list];refine IU ?_;rw[LD,aO];exact n6 _
theorem wB (s:ByteArray):(s.extract 0 17).data.toList=s.data.toList.take 17:=by rw[ext_list];rfl
theorem pF (a b:ByteArray):(a++b).data.toList=a.data.toList++b.data.toList:=by rw[ByteArray.data_append,Array.toList_append]
theorem pG {s k:ByteArray}(h:17<=s.size)(i:¬ (s.extract 17 s.size).toList=[]):df (s.extract 17 s.size) k=s ↔ fZ s k:=by
 have b:=jE (s.extract 17 s.size) k;have f:(eG (s.extract 17 s.size) k).length=17:=CV.symm.trans b;unfold df fZ;rw[gM i];generalize eG (s.extract 17 s.size) k=ZL at b f;by_cases g:60<k.size;{rw[p6 g];constructor;{intro e;rw[<-e] at h;exact absurd h (by decide)};{intro e;omega}};{rw[gM g];constructor;{intro e;refine⟨h,by omega,lH ?_⟩;have c:=wA (λx=>x.data.toList) e;simp only[pF] at c;rw[wB,<-c];have:(⟨ZL.toArray⟩:ByteArray).data.toList=ZL:=rfl;rw[this,List.take_left' f]};{rintro⟨_,_,e⟩;rw[<-e];refine lH ?_;rw[pF,wB,pE,PI]}}
theorem pH (s k:ByteArray)(w:M)(h:s.size<18):Calls Pg 28 #[Y s,Y k] w λe g=>eA w s k e g:=by
 have j:Hid (iM s k U):=by refine⟨λx=>gJ λf n _=>?_,λ_=>rfl⟩;rw[pE];exact VF (by rw[aO];omega)
 have c:=ae ((q9 w).alloc ly (N #[Z U 0 0] 37));have b:Hid (AcR (T w (N #[Z U 0 0] 37)) (I (J w)) (Z U 0 0)):=nL w _;have h1:(s.size:Int)<18:=by omega
 go_enter func28,ntmps28;go_upto_region 1 with fail;generalize T w (N #[Z U 0 0] 37)=W at c b ⊢;have c0:=b.c0;have f0:=b.fz 0;have l0:=b.lt;have l:=ae (b.set (Z U 0 0));have i:=ae (c.setCell (p:=(Q (I (J w)) 0 U)) ly (Z U 0 0));go_wp2;try simp only[Exit.inBlock,Exit.then]
 refine bp (dl rfl _ _ (I (J w)) _ rfl l) rfl ?_;unfold eA;exact⟨U,U,0,[],j,rfl,cA _ _,rfl,SzD.nil _,i⟩
theorem tT (s k:ByteArray)(w:M)(h:18<=s.size)(hs:s.size<=1048576)(hk:k.size<=1048576)(O:∀V,Calls Pg 84 #[Y (s.extract 17 s.size)] V λe X=>ez V (s.extract 17 s.size).data.toList e X):Calls Pg 28 #[Y s,Y k] w λe X=>eA w s k e X:=by
 have ZM:=ae O;unfold ez at ZM;clear O;have H:=ae ((q9 w).alloc ly (N #[Z U 0 0] 37));have K:Hid (AcR (T w (N #[Z U 0 0] 37)) (I (J w)) (Z U 0 0)):=nL w _;have h1:¬ (s.size:Int)<18:=by omega
 have h3:(17:Int)<=(s.size:Int):=by omega
 have ZQ:=pG (s:=s) (k:=k) (by omega);have aq:¬ (s.extract 17 s.size).toList=[]:=by rw[BG];intro e;have:=wA List.length e;rw[aO,ext_size s (by omega),nX] at this;omega
 have ZN:=ae (ZQ aq);clear ZQ;go_enter func28,ntmps28;go_upto_region 1 with fail;generalize T w (N #[Z U 0 0] 37)=W at H K ⊢;have l0:=K.lt;go_wp2_with fail;refine(ZM W).mono ?_;rintro e q ⟨r,a,c,R,P,rfl,L,hM,hZ,y⟩;have ZP:=(q9 q).alloc ly (N #[Z a R.length c] 37);have B:=ae ((L.aa ZP ly).mono (show (I (J w))+1<=I (J W) by omega));have m:=ae ((H.trans (y.mono H.size)).trans (ZP.mono (by have:=H.size;have:=y.size;omega)));have g:=ae (K.aa (y.trans (ZP.mono y.size)) l0);have j:Hid (AcR (T q (N #[Z a R.length c] 37)) (I (J q)) (Z a R.length c)):=nL q _;have HZ:=ae hZ;have ZJ:=ae P;have HM:=ae hM;have hRl:R.length<=300001:=by have:=hZ.1;simpa using this
 clear ZP L hZ hM y H K ZM P;cases r with
 |none =>
  have G:Hid (iM s k U):=⟨λ_=>ZJ,λ_=>rfl⟩
  go_upto_region 4 with fail;generalize T q (N #[Z a R.length c] 37)=ZI at B m g j ⊢;generalize (I (J q))=b4 at j ⊢;have c0:=g.c0;have f0:=g.fz 0;have l2:=g.lt;have E:=ae (g.set (Z U 0 0));have F:=ae (m.setCell (p:=(Q (I (J w)) 0 U)) ly (Z U 0 0));go_wp2;try simp only[Exit.inBlock,Exit.then]
  refine bp (dl rfl _ _ (I (J w)) _ rfl E) rfl ?_;unfold eA;exact⟨U,U,0,[],G,rfl,cA _ _,rfl,SzD.nil _,F⟩
 |some D =>
  go_upto_region 4 with fail;generalize T q (N #[Z a R.length c] 37)=ZI at B m g j ⊢;generalize (I (J q))=b4 at j ⊢;have c4:=j.c0;have ZK:=j.lt;obtain⟨f,n,hf,hS,rfl⟩:=ZJ.1 D rfl;have t:R.map (·.1)=nrm f n:=HM.out;have bt:n=R.length:=by rw[<-lu f n,<-t];simp
  subst bt;have ZO:SlDeed ZI a R.length f:=by have h1:=B.ak;rw[t] at h1;exact pW h1
  have C:=nS (f:=f) (n:=R.length) (k:=300001) (by rw[<-t];exact HZ) (by omega);have z:=j8 a R.length c f k ZI (by omega) (by omega) ZO (λi hi=>(C i hi).1) (λi hi=>(C i hi).2);have es:(⟨(bF f R.length).toArray⟩:ByteArray)=s.extract 17 s.size:=by refine lH ?_;rw[hf]
  rw[es] at z;clear ZO C es hf hS;have dg:=ae t;clear t;by_cases l:fZ s k
  ·have G:Hid (iM s k (some (nrm f R.length))):=⟨λ_=>ZJ,λx=>absurd l x⟩
   rw[ZN.2 l] at z;have u:=ae z;clear z l ZN;go_wp2_with fail;refine u.mono ?_;rintro e w3 ⟨rfl,b⟩;have D3:=ae (B.aa b ly);have S:=ae (m.trans (b.mono m.size));have o:=ae (g.aa b g.lt);have C3:=ae (j.aa b j.lt);clear b u c4 ZK B m g j;have c4:=C3.c0;have ZK:=C3.lt;have c0:=o.c0;have f0:=o.fz 0;have l3:=o.lt;have E:=ae (o.set (Z a R.length c));have F:=ae (S.setCell (p:=(Q (I (J w)) 0 U)) ly (Z a R.length c));have D5:=ae ((D3.set (p:=(Q (I (J w)) 0 U)) (e:=0) (.inl (by show (I (J w))<I (J w)+1;omega)) (Z a R.length c)).mono (show (I (J w))<=I (J w)+1 by omega));go_wp2;try simp only[Exit.inBlock,Exit.then]
   refine bp (dl rfl _ _ (I (J w)) _ rfl E) rfl ?_;unfold eA;exact⟨some (nrm f R.length),a,c,R,G,rfl,D5,dg,HZ,F⟩
  ·have G:Hid (iM s k U):=nY l;have A:¬ df (s.extract 17 s.size) k=s:=λe=>l (ZN.1 e);have e1:=pC A;have e2:=wu A;generalize df (s.extract 17 s.size) k=ZL at z A e1 e2;have u:=ae z;clear z l ZN A;go_wp2_with fail;refine u.mono ?_;rintro e w3 ⟨rfl,b⟩;have S:=ae (m.trans (b.mono m.size));have o:=ae (g.aa b g.lt);clear b u c4 ZK B m g j;have c0:=o.c0;have f0:=o.fz 0;have l3:=o.lt;have E:=ae (o.set (Z U 0 0));have F:=ae (S.setCell (p:=(Q (I (J w)) 0 U)) ly (Z U 0 0));go_wp2;try simp only[Exit.inBlock,Exit.then]
   refine bp (dl rfl _ _ (I (J w)) _ rfl E) rfl ?_;unfold eA;exact⟨U,U,0,[],G,rfl,cA _ _,rfl,SzD.nil _,F⟩
theorem tU (s k:ByteArray)(w:M)(c:s.size<=1048576)(f:k.size<=1048576)(g:∀V,Calls Pg 84 #[Y (s.extract 17 s.size)] V λe b=>ez V (s.extract 17 s.size).data.toList e b):Calls Pg 28 #[Y s,Y k] w λe b=>eA w s k e b:=by
 by_cases h:s.size<18;{exact pH s k w h};{exact tT s k w (by omega) c f g}
