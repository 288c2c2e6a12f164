import Derived.Test.YtcnilonhfpimnaaGreatDoorEX
import Derived.Test.YtcnilonhfpimnaaGreatDoorEQ
set_option linter.all false
set_option maxRecDepth 100000
set_option maxHeartbeats 8000000
open Go renaming Addr.mk->T,Value.slice->Z,Value.string->U,Value.int->J,Value.bool->ZF,Value.agg->ZJ,Obj.cells->N,IntKind.i64->I,World->E,Value->ZB,Ending.returned->ZI,World.heap->B,World.ownsRow->ZX,World.alloc->ZU,World.cell?->ZV,World.frozen?->ZW,Proofs.Tryz.prog->Pg
open Option renaming none->Y,some->Q
open Bool renaming false->ZA,true->ZH
open Array renaming size->z
open List renaming length->A
namespace Go.Proofs.YtcnilonhfpimnaaGreatDoor.Vp
open Tryz RowKit Ca
variable {S:J_}{x:k_}{w:E}{L:List SM}{f b:List k_}{i:Nat}{l:Lk}
def Iq (f:E)(hb:Nat)(s0 s1:ZB)(b:E):Out k_->Prop
 |.inl (made',x)=>∃L h g st,ShBox b hb s0 s1 h g st (dt x).M (dt x).H (Z Y 0 0) ZA/\ZX b (z (B f)) 188 6 h (A L) (L.flatMap smV)/\ZX b (z (B f)) 9 1 g (A made') (bO (made'.map (·.e)))/\(∀m∈L,m.done=ZH->ZX b (z (B f)) 191 3 m.sv (A m.V) (eG m.V))/\fM L [] made'
 |.inr (.inl c)=>∃a k,jb f hb b (jx c) (Z a (A c) k)
 |.inr (.inr d)=>jb f hb b (jy d) (Z Y 0 0)
section
variable {S:J_}{a0 a1:O_}{c0 c1:Nat}
def xH (w:E)(C:pJ w S a0 a1)(nm:F_)(hn:aA nm=ZH):Calls Pg 78 #[ZJ #[Z a0 S.n0 c0,Z a1 S.n1 c1],U nm] w λe M=>∃hb,e=ZI (.pointer (Q (T hb 0 Y)))/\Iq w hb (Z a0 S.n0 c0) (Z a1 S.n1 c1) M (aT S 60 [] [] nm)/\Below (z (B w)) w M:=by
 obtain⟨R,hR⟩:∃R,R=aT S 60 [] [] nm:=⟨_,rfl⟩
 have HM:Hid (∀(W:E) (hb:Nat),SI w hb (Z a0 S.n0 c0) (Z a1 S.n1 c1) W [] [] [] (Z Y 0 0) (Z Y 0 0) (Z Y 0 0)->Calls Pg 120 #[.pointer (Q (T hb 0 Y)),U nm] W λe M=>mF w hb (Z a0 S.n0 c0) (Z a1 S.n1 c1) [] [] W e M R):=by intro W hb ZO;rw[hR];refine Gf C 60 [] [] [] _ _ _ W nm rfl ZO ⟨List.Pairwise.nil,rfl,λx t=>absurd t nj,λx t=>absurd t nj,λx t=>absurd t nj⟩ (gv S []) ?_ (λx t=>absurd t nj) hn;have h1:=wv S;have h2:=C.ok.bb;unfold fm;simp only[IT];omega
 rw[<-hR];have zA:z (B (ZU w (N #[Z a0 S.n0 c0,Z a1 S.n1 c1] 29)))=z (B w)+1:=by simp
 obtain⟨W0,Z8⟩:∃W:E,ZU (ZU w (N #[Z a0 S.n0 c0,Z a1 S.n1 c1] 29)) (N #[Z a0 S.n0 c0,Z a1 S.n1 c1,Z Y 0 0,Z Y 0 0,Z Y 0 0,J I 0,U ⟨#[]⟩,Z Y 0 0,ZF ZA] 141)=W:=⟨_,rfl⟩
 obtain⟨ZQ,-,-,-⟩:=nb2 Z8;have y:=ae Z8;clear Z8;have S0:Hid (SI w (z (B w)+1) (Z a0 S.n0 c0) (Z a1 S.n1 c1) W0 [] [] [] (Z Y 0 0) (Z Y 0 0) (Z Y 0 0)):=by
  cases y.i
  refine⟨ZQ,BV _,?_,⟨rfl,.inl ⟨rfl,rfl⟩⟩,⟨rfl,.inl ⟨rfl,rfl⟩⟩,⟨rfl,.inl ⟨rfl,rfl⟩⟩,(λk h=>by cases h),λm V=>absurd V nj⟩;have h2:=gM (ZU w (N #[Z a0 S.n0 c0,Z a1 S.n1 c1] 29)) (N #[Z a0 S.n0 c0,Z a1 S.n1 c1,Z Y 0 0,Z Y 0 0,Z Y 0 0,J I 0,U ⟨#[]⟩,Z Y 0 0,ZF ZA] 141);rw[zA] at h2;exact h2
 clear hn C hR zA;go_enter func78,ntmps78;go_wp2_with fail;rw[y.i];clear y;obtain⟨hb,ZN⟩:∃hb,hb=z (B w)+1:=⟨_,rfl⟩
 rw[<-ZN] at S0 ⊢;have H:z (B w)<=hb:=by omega
 clear ZN;refine(HM W0 hb S0).P ?_;clear HM;rintro e s l;rcases R with⟨made',x⟩|c|d
 ·obtain⟨L,md,or,st,rfl,ZO,hrel,-,f⟩:=l;have q:=ae (ZQ.k f.aa);have fd:=ae hrel;obtain⟨ZZ,G⟩:∃ZZ,ZZ=(dt x).M:=⟨_,rfl⟩
  obtain⟨ZT,K⟩:∃ZT,ZT=(dt x).H:=⟨_,rfl⟩
  have ld:=ae G;have ZM:=ae K;rw[<-G,<-K];have i:=ae ((BS s).alloc ly (N #[J I ZZ,U ZT,Z Y 0 0] 88));have D:=ae (ZO.aa i ly);clear f hrel ZO G K;obtain⟨ZP,-,-,-,-,-,b5,b6,b7,b8,P⟩:=D.ab.y;have bf5:=P 5;have bf6:=P 6;have bf7:=P 7;clear P;go_wp2_with fail;go_ret;have ZY:∀{size n:Nat} {O:TypeId} {u:ZB} {X:List ZB},(s.alloc (N #[J I ZZ,U ZT,Z Y 0 0] 88)).ownsRow (z (B w)) O size u n X->141≠O->((((s.alloc (N #[J I ZZ,U ZT,Z Y 0 0] 88)).setCell (T hb 5 Y) (J I ZZ)).setCell (T hb 6 Y) (U ZT)).setCell (T hb 7 Y) (Z Y 0 0)).ownsRow (z (B w)) O size u n X:=λZL ht=>by
   rename_i size n O u X;have ZR:u.ownBlock≠Q hb:=λe=>by obtain⟨_,_,cs2,ex⟩:=af ZL hb e;exact absurd (ar D.ab ex) ht
   exact aB (aB (aB ZL ZR _ _) ZR _ _) ZR _ _
  refine⟨hb,rfl,⟨L,md,or,st,?_,ZY D.X (by decide),ZY D.ror (by decide),λm V hd=>ZY (D.V m V hd) (by decide),fd⟩,?_⟩;{rw[<-ld.i,<-ZM.i];exact aw (aw (aw D.ab (j:=5) _) (j:=6) _) (j:=7) _};{exact(((q.k (i.P q.size)).setCell (p:=(T hb 5 Y)) H _).setCell (p:=(T hb 6 Y)) H _).setCell (p:=(T hb 7 Y)) H _}
 {obtain⟨a,k,rfl,⟨s0,s1,bt,la,aq,g,b⟩,f⟩:=l;have r:=ae g;have ZS:=ae b;have q:=ae (ZQ.k f.aa);clear g b f;unfold jl jx;dsimp only;have i:=ae ((BS s).alloc ly (N #[J I 6,U ⟨#[]⟩,Z a (A c) k] 88));have o:=ae (ShBox.ad r (i.p _ (ah r)));obtain⟨ZP,-,-,-,-,-,-,-,-,b8,-⟩:=o.y;go_wp2_with fail;go_ret;exact⟨hb,rfl,⟨a,k,_,_,_,_,_,o,K_ ZS i ly⟩,q.k (i.P q.size)⟩};{obtain⟨rfl,⟨s0,s1,bt,la,aq,g,b⟩,f⟩:=l;have r:=ae g;have ZS:=ae b;have q:=ae (ZQ.k f.aa);clear g b f;unfold jl jy;dsimp only;have i:=ae ((BS s).alloc ly (N #[J I 7,U d,Z Y 0 0] 88));have o:=ae (ShBox.ad r (i.p _ (ah r)));obtain⟨ZP,-,-,-,-,-,-,-,-,b8,-⟩:=o.y;go_wp2_with fail;go_ret;exact⟨hb,rfl,⟨_,_,_,_,_,o,K_ ZS i ly⟩,q.k (i.P q.size)⟩}
end
def Gq (w:E)(x:Int)(ZY:F_)(D:List F_)(a:O_)(n c ZZ:Nat)(hn:n=A D)(hlen:n<=1000)(ZM:ZX w ZZ 9 1 (Z a n c) n (bO D)):Calls Pg 79 #[ZJ #[J I x,U ZY,Z a n c]] w λe ZN=>∃ZP,e=ZI ZP/\oJ w ZN ⟨x,ZY,D⟩ ZP/\Below (z (B w)) w ZN:=by
 obtain⟨i1,fd,la,X,ex⟩:=lE pK;have HO:=ae ZM;have ZS:=ae hn;clear ZM hn;obtain⟨b,Z8⟩:∃W:E,ZU (ZU w (N #[J I x,U ZY,Z a n c] 88)) (N #[J I 0,U ⟨#[]⟩,Z Y 0 0] 88)=W:=⟨_,rfl⟩
 obtain⟨L,kP,kR,-⟩:=nb2 Z8;have H:=ae Z8;clear Z8;go_enter func79,ntmps79;go_upto_region 1 with fail;rw[H.i];clear H;obtain⟨-,ZL,R,p2,-⟩:=bR kP;have aq:z (B w)+1<z (B b):=ah kR.i;have G:Hid (∀V:E,(∀k,k<z (B b)->V.heap[k]?=b.heap[k]?)->ZV V (T (z (B w)) 0 Y)=Q (J I x)/\ZV V (T (z (B w)) 1 Y)=Q (U ZY)/\ZV V (T (z (B w)) 2 Y)=Q (Z a n c)):=λV ZO=>by have e:=cq (a:=(T (z (B w)) 0 Y)) (ZO (z (B w)) (by omega));have e1:=cq (a:=(T (z (B w)) 1 Y)) (ZO (z (B w)) (by omega));have e2:=cq (a:=(T (z (B w)) 2 Y)) (ZO (z (B w)) (by omega));exact⟨e.k ZL,e1.k R,e2.k p2⟩
 have ZT:=ae (G b.drew (λk s=>rfl));refine aI (λV=>ZV V (T (z (B w)) 0 Y)=Q (J I x)/\ZV V (T (z (B w)) 1 Y)=Q (U ZY)/\ZV V (T (z (B w)) 2 Y)=Q (Z a n c)) 9 (by kernel_rfl) ?_;clear ZL R p2;iterate 4
  refine aO 0 (v:=?_) rfl rfl (by kernel_rfl) (λ_ _ _ h=>h) rfl ?_ ZT ?_;rotate_left
  ·(rintro wz⟨s0,s1,s2⟩;go_simp)
   (try with_reducible rfl)
  (try simp only[Act.put,z_])
 iterate 2
  refine aO 5 (v:=?_) rfl rfl (by kernel_rfl) (λ_ _ _ h=>h) rfl ?_ ZT ?_;rotate_left
  ·(rintro wz⟨s0,s1,s2⟩;go_simp)
   (try with_reducible rfl)
  (try simp only[Act.put,z_])
 refine ai (i:=4) rfl (by kernel_rfl) λK l=>?_;go_simp;have AB:=ae (((BS b).drew).alloc ly (N #[] 9));refine l _ _ (λ_=>G _ (λk s=>AB.p k s)) ?_;clear l K
 (try simp only[Act.put,z_])
 have f:Hid (Below (z (B b)) b (ZU b (N #[] 9)).drew):=((BS b).alloc ly _).drew;have r:Hid ((ZU b (N #[] 9)).drew.ownsRow (z (B b)) 9 1 (Z (Q (T (z (B b)) 0 Y)) 0 0) 0 []):=K_ (oH b 9 1) br.drew ly;have ZQ:Hid ((ZU b (N #[] 9)).drew.ownsRow ZZ 9 1 (Z a n c) n (bO D)):=K_ (K_ HO L ly) f ly;refine ai (i:=7) rfl (by kernel_rfl) λK l=>?_;obtain⟨-,⟨O,h0⟩|⟨g,j_,cur,O,-⟩⟩:=id ZQ.i;focus
  have e0:D=[]:=VJ.1 (ZS.i.c.k h0);cases O
  subst e0;go_simp;have y:=f;obtain⟨a1,c1,ea,ZR⟩:∃a1 c1,(Z a1 0 c1:ZB)=Z (Q (T (z (B b)) 0 Y)) 0 0/\Hid ((ZU b (N #[] 9)).drew.ownsRow (z (B b)) 9 1 (Z a1 0 c1) 0 (bO [])):=⟨_,_,rfl,r⟩
  rw[<-ea];clear f r ZQ AB ea;refine l _ _ (λ_=>G _ (λk s=>y.p k s)) ?_;generalize (ZU b (N #[] 9)).drew=P at y ZR ⊢
 rotate_left;focus
  cases O
  refine aU (w:=(ZU b (N #[] 9)).drew) rfl (.tmp 7) (.tmp 9) 43 rfl (z (B b)) 9 i1 (U ⟨#[]⟩) 1 16 NH fd la X ex rfl (by decide) (Z (Q (T (z (B b)) 0 Y)) 0 0) 0 [] (by simp[Act.eval]) r.i (T g 0 Y) n c (bO D) (by simp[Act.eval]) (by rw[bO,PJ,<-ZS.i,Nat.mul_one]) (λq u h=>ZQ.cells (g:=g) rfl q u h) (λu hu=>by rw[bO,NN] at hu;obtain⟨t,_,rfl⟩:=hu;rfl) (by unfold maxLen;omega) (by omega) f.size ?_;intro v1 P m C ld;have y:Hid (Below (z (B b)) b P):=f.k (bg (a8 (z (B b)) _) C f.size (λj e=>(r.lt j e).1));rw[I5,NS] at m;have ZR:=ae m;obtain⟨a1,c1,rfl⟩:=jZ m;clear m C ld f r ZQ AB;refine l _ _ (λ_=>G _ (λk s=>y.p k s)) ?_
 all_goals
  clear l K
  (try simp only[Act.put,z_])
  have bt:=ae (G P (λk s=>y.p k s));clear ZT;have ZT:=ae bt.i;refine aO 8 (v:=?_) rfl rfl (by kernel_rfl) (λ_ _ _ h=>h) rfl ?_ ZT ?_;rotate_left
  ·(rintro wz⟨s0,s1,s2⟩;go_simp)
   (try with_reducible rfl)
  (try simp only[Act.put,z_])
  obtain⟨rl,r0,r1,S,M⟩:=bR ((y.p _ aq).k kR);have rf0:=M 0;have rf1:=M 1;have rf2:=M 2;clear M;refine ai (i:=9) rfl (by kernel_rfl) λK l=>?_;go_simp;refine l _ _ (λh=>absurd rfl h) ?_;clear l K ZT
  (try simp only[Act.put])
  refine ba (by kernel_rfl) ?_ _;go_wp2_with fail;first|refine bp (v:=ZJ #[J I x,U ZY,Z a1 n c1]) (by simp[results,results79,go_sem,r0,r1,S]) rfl ⟨_,rfl,⟨a1,c1,by rw[<-ZS.i],?_⟩,?_⟩|refine bp (v:=ZJ #[J I x,U ZY,Z a1 0 c1]) (by simp[results,results79,go_sem,r0,r1,S]) rfl ⟨_,rfl,⟨a1,c1,by rw[<-ZS.i],?_⟩,?_⟩
  ·show World.ownsRow _ _ _ _ _ (List.length _) _
   rw[<-ZS.i];refine aE (aB (aB (aB ZR (λe=>?_) _ _) (λe=>?_) _ _) (λe=>?_) _ _) L.size;all_goals
    have:=(af ZR _ e).1;omega
  ·exact(((L.k (y.P L.size)).setCell (p:=(T (z (B w)+1) 0 Y)) (BV _) _).setCell (p:=(T (z (B w)+1) 1 Y)) (BV _) _).setCell (p:=(T (z (B w)+1) 2 Y)) (BV _) _
def qW (w:E)(r:jj)(a:O_)(c ZZ:Nat)(g:ZX w ZZ 9 1 (Z a (A r.R) c) (A r.R) (bO r.R))(b:A r.R<=1000):Calls Pg 79 #[ZJ #[J I r.M,U r.H,Z a (A r.R) c]] w λe i=>∃h,e=ZI h/\oJ w i r h/\Below (z (B w)) w i:=by obtain⟨j,l,f⟩:=r;simp only at g b ⊢;exact Gq w j l f a (A f) c ZZ rfl b g
def AA{lies:List k_->F_->Out k_}{t K:Nat}(l:∀b nm c,lies b nm=.inr (.inl c)->A c<=K):∀k b g f c,bT S lies t k b g f=.inr (.inl c)->A c<=K:=by
 intro k;induction k with
 |zero=>intro b g f c h;cases h
 |succ k i =>
  intro b g f c h;rw[bT] at h;split at h;{cases h}
  ·split at h;{exact i _ _ _ _ h}
   ·split at h;{exact i _ _ _ _ h}
    ·rename_i c' j;cases h
     exact l _ _ _ j
    {cases h}
def xI (S:J_):∀n b f nm c,aT S n b f nm=.inr (.inl c)->A c<=A b+n:=by
 intro n;have g:∀b f nm c (K:Nat) (tgt:Nat->Out k_),A b<=K->(∀t c,tgt t=.inr (.inl c)->A c<=K)->dB S tgt b f nm=.inr (.inl c)->A c<=K:=by
  intro b f nm c K tgt hK j h;unfold dB at h;split at h;{cases h}
  ·split at h
   ·cases h
    rw[NO];omega
   {unfold eW ee at h;split at h;{cases h};{split at h;{exact j _ _ h};{cases h}}}
 induction n with
 |zero =>intro b f nm c h;rw[aT] at h;exact g _ _ _ _ _ _ (by omega) (λt c h=>by cases h) h
 |succ n i =>
  intro b f nm c h;rw[aT] at h;refine g _ _ _ _ _ _ (by omega) (λt c h=>?_) h;rcases hr:bT S (aT S n (b++[nm])) t 201 f [] [] with⟨made1,x⟩|c1|d;{rw[hr] at h;cases h}
  ·rw[hr] at h;cases h
   refine AA (λf nm2 c2 h2=>?_) _ _ _ _ _ hr;have:=i _ _ _ _ h2;rw[cM,AI] at this;omega
  {rw[hr] at h;cases h}
structure ShAt (ZZ:Nat)(w:E)(hb:Nat)(s0 s1 md or:ZB)(L:List SM)(q_:List k_):Prop where
 lt:hb<z (B w)
 c0:ZV w (T hb 0 Y)=Q s0
 c1:ZV w (T hb 1 Y)=Q s1
 c2:ZV w (T hb 2 Y)=Q md
 c3:ZV w (T hb 3 Y)=Q or
 X:ZX w ZZ 188 6 md (A L) (L.flatMap smV)
 ror:ZX w ZZ 9 1 or (A q_) (bO (q_.map (·.e)))
 V:∀m∈L,m.done=ZH->ZX w ZZ 191 3 m.sv (A m.V) (eG m.V)
def ShAt.aa{ZZ C:Nat}{n:E}{hb:Nat}{s0 s1 j l:ZB}(h:ShAt ZZ w hb s0 s1 j l L f)(b:Below C w n)(i:z (B w)<=C):ShAt ZZ n hb s0 s1 j l L f:=by have g:hb<C:=lj h.lt i;exact⟨lj h.lt b.size,(b.O (p:=(T hb 0 Y)) g).k h.c0,(b.O (p:=(T hb 1 Y)) g).k h.c1,(b.O (p:=(T hb 2 Y)) g).k h.c2,(b.O (p:=(T hb 3 Y)) g).k h.c3,K_ h.X b i,K_ h.ror b i,λm q o=>K_ (h.V m q o) b i⟩
def Jf (h:fM L [] b)(q:b[i]?=Q x):∃k m,fI L x.e=Q k/\L[k]?=Q m/\m.e=x.e/\m.done=ZH/\m.M=(dt x).M/\m.H=(dt x).H/\m.V=x.D:=by obtain⟨m,j,f,o,r,p,n⟩:=h.got x (J1 q);obtain⟨k,l,g⟩:=rW h.nod j f;exact⟨k,m,l,g,f,o,r,p,n⟩
def wB (h1:bP S x=0)(h2:x.D=[])(W:E)(b:Nat):DSub W b (bo S f x,Z Y 0 0,Z Y 0 0):=by
 refine⟨?_,?_⟩;{show ZX W b 102 3 (Z Y 0 0) (bP S x) (bZ (S.f1 x.tg).q (bP S x));rw[h1];exact CP _ _ _ _};{show ZX W b 65 4 (Z Y 0 0) (A x.D) (cy (lkF f x.D) (A x.D));rw[h2];exact CP _ _ _ _}
def Gr (h:PG S [] b)(q:b[i]?=Q x)(s:l∈x.D)(r:l.ask=ZH){D:List au}(t:D=(b.take i).map (bo S b)):jF (dF D) l.e i=((iw b l.e:Nat):Int):=by
 obtain⟨y,m,hn,p⟩:=h.asked q s r;have g:∀(j:Nat) (ZY:k_),j<i->b[j]?=Q ZY->(dF D j).e=ZY.e:=λj ZY n hz=>by unfold dF;rw[t,CL,L8,List.getElem?_take_of_lt n,hz];rfl
 unfold jF;refine fQ p ?_ λj n=>?_;{rw[g _ y p m,hn];simp}
 ·have o:=(j5.1 m).1;have hz:b[j]?=Q b[j]:=gq (by omega);rw[g j _ (by omega) hz];have f:=ES.1 h.nod j _ (by omega) o n;rw[(j5.1 m).2,hn] at f;cases hb:(b[j].e.toList == l.e.toList) with
  |false=>rfl
  |true=>exact absurd (Qw hb) f
def Dt{f g c:Nat}{b:List Lk}(h:ZX w f 191 3 (Z (Q (T g 0 Y)) (A b) c) (A b) (eG b)){k:Nat}(i:b[k]?=Q l)(j:Nat)(n:j<3){u:ZB}(m:[Value.string l.e,ZF l.ask,ZF l.has][j]?=Q u):ZV w (T g (k*3+j) Y)=Q u:=
 (bA h (j:=k*3+j) (u:=u) (by rw[eG,cT (λl:Lk=>[Value.string l.e,ZF l.ask,ZF l.has]) 3 (λ_=>rfl) b k j n l i];exact m)).1
def LkI (S:J_)(h:List k_)(x:k_)(i:Int)(l:F_)(o:O_)(p n m g c4:Nat)(b:E)(al:O_)(k j:Nat)(f:E):Prop:=Hid (DBox f (z (B b)+1) (U x.e) (J I 3) (J I i) (U l) (Z (Q (T m 0 Y)) g c4) (Z al k j))/\Hid (f.heap[z (B b)]?=Q (N #[U x.e,J I i,U l,Z Y 0 0,Z o p n,ZF ZH] 188 (0,0)))/\Hid (ZX f (z (B b)+2) 102 3 (Z (Q (T m 0 Y)) g c4) g (bZ (S.f1 x.tg).q g))/\Hid (ZX f (z (B b)+2) 65 4 (Z al k j) k (lkV h (x.D.take k)))/\Hid (Below (z (B b)) b f)
section
variable {S:J_}{a0 a1:O_}{c0 c1:Nat}
def AE (ZZ:Nat)(w:E)(hb:Nat)(md or:ZB)(L:List SM)(f:List k_)
  (JQ:ShAt ZZ w hb (Z a0 S.n0 c0) (Z a1 S.n1 c1) md or L f) (hrel:fM L [] f) (KI:PG S [] f) (Li:A f<=40201)
  (KP:Qy w a0 S.n0 S.f0) (KO:Qx w a1 S.n1 S.f1) (Ky:SpcOk S) (JY:∀i,i<S.n1->aP (S.f1 i)) :
  Calls Pg 80 #[.pointer (Q (T hb 0 Y))] w λe w'=>∃a c R,e=ZI (ZJ #[Z a (A R) c])/\DRow w' (z (B w)) (Z a (A R) c) R/\R.map (·.1)=bk S f/\Below (z (B w)) w w':=by
 have KJ:=ae JQ;have Lm:=ae hrel;have KV:=ae KI;have V0:=ae KP;have V1:=ae KO;have JH:=ae Ky;have LA:=ae JY;have LL:A L<=40201:=by have:=hrel.len;simp only[IT,QF] at this;omega
 obtain⟨am,cm,rfl⟩:=bM JQ.X;obtain⟨ao,co,rfl⟩:=bM JQ.ror;obtain⟨ZQ,hN⟩:∃ZQ,ZQ=A L:=⟨_,rfl⟩
 obtain⟨n,hn⟩:∃n,n=A f:=⟨_,rfl⟩
 have ZM:=ae hN;have HN:=ae hn;rw[<-hN,<-hn] at KJ;rw[<-hN] at LL;rw[<-hn] at Li;clear JQ hrel KI KP KO Ky JY hN hn;obtain⟨il,LD,Ll,Lf,Le⟩:=NP lH;obtain⟨LN,Lq,Lo,Lg,Ln⟩:=NP gC;obtain⟨W0,hW⟩:∃W:E,ZU (ZU w (N #[Z Y 0 0] 25)) (N #[Z Y 0 0] 25)=W:=⟨_,rfl⟩
 obtain⟨A0,kR,kA,-⟩:=nb2 hW;have HW:=ae hW;clear hW;go_enter func80,ntmps80;go_wp2_with fail;rw[HW.i];clear HW;go_loopw [4] (λv wr=>∃(i:Nat) (ZN:O_) (c5:Nat) (R:List DR),i<=n/\v=J I i/\(A R)=i/\Hid (R.map (·.1)=(f.take i).map (bo S f))/\Hid (DRow wr (z (B w)+2) (Z ZN i c5) R)/\Hid (wr.heap[z (B w)+1]?=Q (N #[Z ZN i c5] 25 (0,0)))/\Hid (wr.heap[z (B w)]?=Q (N #[Z Y 0 0] 25 (0,0)))/\Hid (Below (z (B w)) w wr)) (λv _=>n - (intOf v).toNat);case atStart=>exact⟨0,Y,0,[],by omega,rfl,rfl,rfl,jK _ _,kA,kR,A0⟩
 case round =>
  clear kA kR A0;obtain⟨i,ZN,c5,R,hi,rfl,Fm,Ke,D4,k4,la,B4⟩:=hrel;have M:=ae (KJ.aa B4 ly);have hw4:z (B w)+2<=z (B wr):=ah k4.i;have h3:=M.c3;have Kx:=M.lt;by_cases Lx:i<n
  ·obtain⟨x,hx⟩:∃x,f[i]?=Q x:=⟨_,gq (by rw[<-HN.i];exact Lx)⟩
   obtain⟨j,m,hf,hm,e1,e2,e3,e4,e5⟩:=Jf Lm hx;have Bk:=M.ror;have O:=M.X;rw[<-HN.i] at Bk;rw[<-ZM.i] at O;obtain⟨go,co',e⟩:=dr Bk (by omega);simp only[IS,TX] at e;obtain⟨rfl,rfl⟩:=e;have hjN:j<ZQ:=by rw[ZM.i];exact(j5.1 hm).1
   obtain⟨t,cm',e⟩:=dr O (by omega);simp only[IS,TX] at e;obtain⟨rfl,rfl⟩:=e;have oc:ZV wr (T go i Y)=Q (U x.e):=(bA Bk (by rw[bO,L8,L8,hx];rfl)).1;have LF:=(cV Bk).2;have ld:=(cV O).2;have h2:=M.c2;have At:=M.V m (J1 hm) e2;obtain⟨ZL,ZT,JT⟩:=bM At;obtain⟨Z8,Ka⟩:∃Z8,Z8=(dt x).M:=⟨_,rfl⟩
   obtain⟨o,fd⟩:∃o,o=(dt x).H:=⟨_,rfl⟩
   obtain⟨y,JV⟩:∃y,y=A x.D:=⟨_,rfl⟩
   rw[e5] at JT At;rw[JT,<-JV] at At;have q0:ZV wr (T t (j*6) Y)=Q (U x.e):=by have:=cJ (by rw[<-ZM.i];exact O) hm 0 (by omega) rfl;rw[e1] at this;exact this
   have q1:ZV wr (T t (j*6+1) Y)=Q (J I Z8):=by have:=cJ (by rw[<-ZM.i];exact O) hm 1 (by omega) rfl;rw[e3,<-Ka] at this;exact this
   have q2:ZV wr (T t (j*6+2) Y)=Q (U o):=by have:=cJ (by rw[<-ZM.i];exact O) hm 2 (by omega) rfl;rw[e4,<-fd] at this;exact this
   have q3:ZV wr (T t (j*6+3) Y)=Q (Z Y 0 0):=cJ (by rw[<-ZM.i];exact O) hm 3 (by omega) rfl;have q4:ZV wr (T t (j*6+4) Y)=Q (Z ZL y ZT):=by have:=cJ (by rw[<-ZM.i];exact O) hm 4 (by omega) rfl;rw[JT,<-JV] at this;exact this
   have q5:ZV wr (T t (j*6+5) Y)=Q (ZF ZH):=by have:=cJ (by rw[<-ZM.i];exact O) hm 5 (by omega) rfl;rw[e2] at this;exact this
   have C:Hid (∀V,Below (z (B wr)) wr V->ZV V (T hb 2 Y)=Q (Z (Q (T t 0 Y)) ZQ cm)/\ZV V (T hb 3 Y)=Q (Z (Q (T go 0 Y)) n co)/\ZV V (T go i Y)=Q (U x.e)/\ZV V (T t (j*6) Y)=Q (U x.e)/\ZV V (T t (j*6+1) Y)=Q (J I Z8)/\ZV V (T t (j*6+2) Y)=Q (U o)/\ZV V (T t (j*6+3) Y)=Q (Z Y 0 0)/\ZV V (T t (j*6+4) Y)=Q (Z ZL y ZT)/\ZV V (T t (j*6+5) Y)=Q (ZF ZH)):=λV g=>⟨(g.O (p:=(T hb 2 Y)) Kx).k h2,(g.O (p:=(T hb 3 Y)) Kx).k h3,(g.O (p:=(T go i Y)) LF).k oc,(g.O (p:=(T t _ Y)) ld).k q0,(g.O (p:=(T t _ Y)) ld).k q1,(g.O (p:=(T t _ Y)) ld).k q2,(g.O (p:=(T t _ Y)) ld).k q3,(g.O (p:=(T t _ Y)) ld).k q4,(g.O (p:=(T t _ Y)) ld).k q5⟩
   have CT:Hid (∀V,Below (z (B wr)) wr V->Calls Pg 121 #[.pointer (Q (T hb 0 Y)),U x.e] V λe w'=>e=ZI (J I (j:Int))/\w'=V):=λV g=>by
    have h:=M.aa g ly;refine(vX V x.e ZZ h.c2 h.X (by rw[<-ZM.i];omega)).P λe w' ⟨he,hw⟩=>⟨?_,hw⟩
    rw[he,hf];rfl
   have HX:=ae hx;have LQ:=ae Ka;have Kt:=ae fd;have GS:=ae JV;have Kb:=ae At;have hj0:(0:Int)<=(j:Int):=by omega
   have hjI:(j:Int)<ZQ:=by omega
   have hi0:(0:Int)<=(i:Int):=by omega
   have hiI:(i:Int)<n:=by omega
   clear Bk O At JT hx hf hm e1 e2 e3 e4 e5 Ka fd JV;go_upto_region 5 with fail;go_cut [5] (λs wx=>s=.pointer (Q (T (z (B wr)) 0 Y))/\wx=(ZU wr (N #[U x.e,J I Z8,U o,Z Y 0 0,Z ZL y ZT,ZF ZH] 188)).drew);case first =>
    clear h2 h3 oc q0 q1 q2 q3 q4 q5
    go_region_held3 (λV=>ZV V (T hb 2 Y)=Q (Z (Q (T t 0 Y)) ZQ cm)/\ZV V (T hb 3 Y)=Q (Z (Q (T go 0 Y)) n co)/\ZV V (T go i Y)=Q (U x.e)/\ZV V (T t (j*6) Y)=Q (U x.e)/\ZV V (T t (j*6+1) Y)=Q (J I Z8)/\ZV V (T t (j*6+2) Y)=Q (U o)/\ZV V (T t (j*6+3) Y)=Q (Z Y 0 0)/\ZV V (T t (j*6+4) Y)=Q (Z ZL y ZT)/\ZV V (T t (j*6+5) Y)=Q (ZF ZH)) (first|exact C _ br|exact C _ br.drew|exact C _ (br.drew.alloc ly _)|exact C _ (br.alloc ly _).drew|exact C _ ((((((((BS wr).drew.alloc ly _).setCell ly _).setCell ly _).setCell ly _).setCell ly _).setCell ly _).setCell ly _)) (first
     |(go_at_call 121;refine(CT _ (by first|exact br.drew|exact a8 _ _|exact br.drew.alloc ly _)).P ?_;rintro e w5⟨rfl,rfl⟩))
    all_goals
     go_wp2_with fail;go_meet;exact⟨rfl,rfl⟩
   case rest =>
   obtain⟨rfl,rfl⟩:=hcut;have B5:=ae ((BS wr).alloc ly (N #[U x.e,J I Z8,U o,Z Y 0 0,Z ZL y ZT,ZF ZH] 188)).drew;have m5:Hid ((ZU wr (N #[U x.e,J I Z8,U o,Z Y 0 0,Z ZL y ZT,ZF ZH] 188)).drew.heap[z (B wr)]?=Q (N #[U x.e,J I Z8,U o,Z Y 0 0,Z ZL y ZT,ZF ZH] 188 (0,0))):=gM wr _;have JM:(ZU wr (N #[U x.e,J I Z8,U o,Z Y 0 0,Z ZL y ZT,ZF ZH] 188)).drew.heap.size=z (B wr)+1:=by simp[World.drew]
   clear h2 h3 oc q0 q1 q2 q3 q4 q5 C CT;generalize World.drew (World.alloc wr _)=W5 at B5 m5 JM ⊢;have p0:ZV W5 (T (z (B wr)) 0 Y)=Q (U x.e):=by simp[World.cell?,m5.i]
   obtain⟨W6,Id⟩:∃W:E,ZU W5 (N #[U x.e,J I 0,J I 0,U ⟨#[]⟩,Z Y 0 0,Z Y 0 0] 62)=W:=⟨_,rfl⟩
   obtain⟨A6,-,-⟩:=nb1 Id;have ex:=ae Id;clear Id;have B6:=ae (B5.k (A6.P B5.size));have X6:Hid (DBox W6 (z (B wr)+1) (U x.e) (J I 0) (J I 0) (U ⟨#[]⟩) (Z Y 0 0) (Z Y 0 0)):=by
    cases ex.i
    have h:=jG W5 (U x.e) (J I 0) (J I 0) (U ⟨#[]⟩) (Z Y 0 0) (Z Y 0 0) 62;rw[JM] at h;exact h
   have m6:Hid (W6.heap[z (B wr)]?=Q (N #[U x.e,J I Z8,U o,Z Y 0 0,Z ZL y ZT,ZF ZH] 188 (0,0))):=by cases ex.i;exact(A6.p _ (by omega)).k m5
   have LC:z (B W6)=z (B wr)+2:=by cases ex.i;simp[JM]
   go_upto_region 7 with fail;rw[ex.i];clear ex;clear p0 B5 m5 A6 JM;have Fd:=ae (M.aa B6 ly);have J7:=ae (B4.k (B6.P (by omega)));have C:Hid (∀V,Below (z (B W6)) W6 V->ZV V (T hb 0 Y)=Q (Z a0 S.n0 c0)/\ZV V (T hb 1 Y)=Q (Z a1 S.n1 c1)/\ZV V (T (z (B wr)) 0 Y)=Q (U x.e)):=λV g=>⟨(g.O (p:=(T hb 0 Y)) Fd.lt).k Fd.c0,(g.O (p:=(T hb 1 Y)) Fd.lt).k Fd.c1,(g.O (p:=(T (z (B wr)) 0 Y)) (by show (z (B wr))<_;omega)).k (by simp[World.cell?,m6.i])⟩
   obtain⟨ZP,hT⟩:∃ZP,ZP=eh (atI (nm1 S.f1) S.n1 x.e):=⟨_,rfl⟩
   have CT:Hid (∀V,Below (z (B W6)) W6 V->Calls Pg 28 #[ZJ #[Z a0 S.n0 c0,Z a1 S.n1 c1],U x.e] V λe w'=>e=ZI (J I ZP)/\Below (z (B V)) V w'):=λV g=>by rw[hT];exact iQ a0 S.n0 c0 a1 S.n1 c1 S.f1 x.e V (by have:=JH.bb;omega) (V1.aa (J7.k (g.P J7.size)) ly)
   have HT:=ae hT;clear hT
   go_region_held3 (λV=>ZV V (T hb 0 Y)=Q (Z a0 S.n0 c0)/\ZV V (T hb 1 Y)=Q (Z a1 S.n1 c1)/\ZV V (T (z (B wr)) 0 Y)=Q (U x.e)) (first|exact C _ br|exact C _ br.drew|exact C _ D7) (first
    |(go_at_call 28;refine(CT _ (by first|exact br.drew|exact a8 _ _)).P ?_;rintro e w7⟨rfl,mv⟩;have D7:Hid (Below (z (B W6)) W6 w7):=⟨mv.os,mv.tape,mv.output,mv.size,mv.p⟩;clear mv))
   have B7:=ae (B6.k (D7.P B6.size));have X7:=ae (X6.aa D7 X6.lt);have m7:=ae ((D7.p _ (ah m6)).k m6);have Km:z (B wr)+2<=z (B w7):=by have:=D7.size;omega
   have k7:=ae ((B7.p _ (ah k4)).k k4);have KN:=ae ((B7.p _ (ah la)).k la);have qr:=ae (M.aa B7 ly);have JP:=ae (B4.k (B7.P (by omega)));have Kj:=J1 HX.i;have La:=ae (KV.W x Kj);clear D7 C CT X6 m6 Fd J7 B6 LC Kj;go_upto_if 46 with fail;go_cut [8,9] (λ_ _ wx=>∃(aa al:O_) (na nl ca ZS:Nat),Hid (DBox wx (z (B wr)+1) (U x.e) (J I x.L) (J I x.M) (U x.H) (Z aa na ca) (Z al nl ZS))/\Hid (DSub wx (z (B wr)) (bo S f x,Z aa na ca,Z al nl ZS))/\Hid (Below (z (B wr)) wr wx));case first =>
    rcases La.L with⟨hk,th,hlk,si,KQ,J0⟩|⟨hk,th,J0,hlk,J9,ur⟩|⟨hk,J9,ur⟩
    rotate_left 2
    ·have HK:=ae hk;have Ko:dt x=⟨x.M,x.H,[]⟩:=by unfold dt;rw[eI (by omega)]
     have JK:Hid (o=x.H/\Z8=x.M):=⟨by rw[Kt.i,Ko],by rw[LQ.i,Ko]⟩
     have hns2:y<=200:=by rw[GS.i];exact La.D
     have Kk:=(bu ur).1;have Kg:ZP=(x.tg:Int):=by rw[HT.i,ur];rfl
     have KM:bP S x=(S.f1 x.tg).h:=by unfold bP;rw[eT hk]
     obtain⟨ZO,JL⟩:∃ZO,ZO=(S.f1 x.tg).h:=⟨_,rfl⟩
     have LG:Hid (bP S x=ZO):=KM.k JL.c;have hn4m:ZO<=1048576:=by rw[JL];exact LA x.tg Kk
     have hn41:1<=ZO:=by obtain⟨_,hv,_⟩:=bJ (JH.q x.tg Kk);omega
     obtain⟨tb,tf,Lv,fd⟩:=V1.resolve_left (by omega);subst Kg Lv;obtain⟨-,ia,ic,sm,KH⟩:=fd.2 x.tg Kk;have Ki:=fd.1;obtain⟨ib,io,rfl,Kp⟩:=KH.resolve_left (by omega);rw[<-JL] at sm Kp;have Lu:=ae Kp;have Ks:=ae sm;clear hk Ko KM JL J9 ur fd KH Kp sm;have q1:ZV w7 (T (z (B wr)) 1 Y)=Q (J I Z8):=by simp[World.cell?,m7.i]
     have q2:ZV w7 (T (z (B wr)) 2 Y)=Q (U o):=by simp[World.cell?,m7.i]
     obtain⟨d1,Kv⟩:=X7.c1;obtain⟨d2,LP⟩:=X7.c2;obtain⟨d3,KZ⟩:=X7.c3;have KU:=X7.lt;have htg0:(0:Int)<=(x.tg:Int):=by omega
     have X9:=ae (((X7.set1 (J I 3)).set2 (J I Z8)).set3 (U o));have m9:Hid ((((w7.setCell (T (z (B wr)+1) 1 Y) (J I 3)).setCell (T (z (B wr)+1) 2 Y) (J I Z8)).setCell (T (z (B wr)+1) 3 Y) (U o)).heap[z (B wr)]?=Q (N #[U x.e,J I Z8,U o,Z Y 0 0,Z ZL y ZT,ZF ZH] 188 (0,0))):=(qh _ _ _ _ (show (z (B wr))≠z (B wr)+1 by omega)).k ((qh _ _ _ _ (show (z (B wr))≠z (B wr)+1 by omega)).k ((qh _ _ _ _ (show (z (B wr))≠z (B wr)+1 by omega)).k m7.i));have B9:=ae (((B7.setCell (p:=(T (z (B wr)+1) 1 Y)) (BV _) (J I 3)).setCell (p:=(T (z (B wr)+1) 2 Y)) (BV _) (J I Z8)).setCell (p:=(T (z (B wr)+1) 3 Y)) (BV _) (U o));have Lc:z (B wr)+2<=(((w7.setCell (T (z (B wr)+1) 1 Y) (J I 3)).setCell (T (z (B wr)+1) 2 Y) (J I Z8)).setCell (T (z (B wr)+1) 3 Y) (U o)).heap.size:=by simpa using Km
     go_upto_region 12 with fail;generalize World.setCell (World.setCell (World.setCell w7 _ _) _ _) _ _=W9 at X9 m9 B9 Lc ⊢;clear d1 Kv d2 LP d3 KZ q1 q2 KU X7 m7 B7 k7 KN qr JP Km;have JJ:=ae (B4.k (B9.P (by omega)));have Kn:=ae (M.aa B9 ly);have Lt:=Kn.c1;have Lh:=Kn.lt;have tc:=(JJ.O (p:=(T tb (tf+x.tg*2+1) Y)) Ki).k Ks;have Lj:tb<z (B W9):=lj Ki JJ.size;have htgI:(x.tg:Int)<(S.n1:Int):=by omega
     go_wp2_with fail;refine(je ib io ZO ic (S.f1 x.tg).q W9 (by omega) (Lu.aa JJ ly)).P ?_;rintro e Kz⟨g4,c4,rfl,J6,ro⟩;have JS:=ae (X9.aa ro X9.lt);obtain⟨d4,Ls⟩:=JS.c4;have Kh:=ae (JS.set4 (Z (Q (T g4 0 Y)) ZO c4));have Kc:Hid ((Kz.setCell (T (z (B wr)+1) 4 Y) (Z (Q (T g4 0 Y)) ZO c4)).heap[z (B wr)]?=Q (N #[U x.e,J I Z8,U o,Z Y 0 0,Z ZL y ZT,ZF ZH] 188 (0,0))):=(qh _ _ _ _ (show (z (B wr))≠z (B wr)+1 by omega)).k ((ro.p _ (ah m9)).k m9);have JZ:=ae (aH (R:=z (B wr)+1) (j:=4) (aE J6 (show (z (B wr))+2<=z (B W9) by omega)) (by omega) (Z (Q (T g4 0 Y)) ZO c4));have Kl:=ae ((B9.k (ro.P B9.size)).setCell (p:=(T (z (B wr)+1) 4 Y)) (BV _) (Z (Q (T g4 0 Y)) ZO c4));have Kr:=JS.lt;clear J6 ro tc Lt;go_wp2;generalize World.setCell Kz _ _=W11 at Kh Kc JZ Kl ⊢;clear d4 Ls JS Kr X9 m9 B9 JJ Kn Lh Lj Lc;obtain⟨r,Lp⟩:∃r,r=wr:=⟨_,rfl⟩
     subst Lp;go_loopw [8] (λv wq=>∃(k:Nat) (al:O_) (ZS:Nat),k<=y/\v=J I k/\LkI S f x Z8 o ZL y ZT g4 ZO c4 r al k ZS wq) (λv _=>y - (intOf v).toNat);case atStart=>exact⟨0,Y,0,by omega,rfl,Kh,Kc,JZ,CP _ _ _ _,Kl⟩
     case round =>
      clear Kh Kc JZ Kl;obtain⟨k,al,ZS,hk,rfl,JO,J8,Kd,JX,DQ⟩:=hrel;have m4:ZV wr (T (z (B r)) 4 Y)=Q (Z ZL y ZT):=by simp[World.cell?,J8.i]
      have ml:=ah J8.i;have hz12:z (B r)+2<=z (B wr):=JO.lt;by_cases hlk:k<y
      ·obtain⟨l,hl⟩:∃l,x.D[k]?=Q l:=⟨_,gq (by rw[<-GS.i];exact hlk)⟩
       obtain⟨K,sc',e⟩:=dr Kb (by omega);simp only[IS,TX] at e;obtain⟨rfl,rfl⟩:=e;have KT:=(cV Kb).2;have sn:∀j,j<3->∀u,[Value.string l.e,ZF l.ask,ZF l.has][j]?=Q u->ZV wr (T K (k*3+j) Y)=Q u:=λj hj u hu=>(DQ.O (p:=(T K (k*3+j) Y)) KT).k (Dt (by have h:=Kb.i;rw[GS.i] at h;exact h) hl j hj hu);have f0:=sn 0 (by omega) _ rfl;have f1:=sn 1 (by omega) _ rfl;have f2:=sn 2 (by omega) _ rfl;rw[show k*3+0=k*3 by omega] at f0;have JG:K<z (B wr):=lj KT DQ.size;have HL:=ae hl;have C:Hid (∀V,Below (z (B wr)) wr V->ZV V (T (z (B r)) 4 Y)=Q (Z (Q (T K 0 Y)) y ZT)/\ZV V (T K (k*3) Y)=Q (U l.e)/\ZV V (T K (k*3+1) Y)=Q (ZF l.ask)/\ZV V (T K (k*3+2) Y)=Q (ZF l.has)):=λV g=>⟨(g.O (p:=(T (z (B r)) 4 Y)) ml).k m4,(g.O (p:=(T K _ Y)) JG).k f0,(g.O (p:=(T K _ Y)) JG).k f1,(g.O (p:=(T K _ Y)) JG).k f2⟩
       have hk0:(0:Int)<=(k:Int):=by omega
       have hkI:(k:Int)<y:=by omega
       clear sn hl;go_upto_region 16 with fail;go_cut [9] (λs wx=>s=.pointer (Q (T (z (B wr)) 0 Y))/\wx=(ZU wr (N #[U l.e,ZF l.ask,ZF l.has,J I 0] 65)).drew);case first =>
        clear m4 f0 f1 f2;go_region_held3 (λV=>ZV V (T (z (B r)) 4 Y)=Q (Z (Q (T K 0 Y)) y ZT)/\ZV V (T K (k*3) Y)=Q (U l.e)/\ZV V (T K (k*3+1) Y)=Q (ZF l.ask)/\ZV V (T K (k*3+2) Y)=Q (ZF l.has)) (first|exact C _ br|exact C _ br.drew|exact C _ (br.drew.alloc ly _)|exact C _ (br.alloc ly _).drew|exact C _ ((((((BS wr).drew.alloc ly _).setCell ly _).setCell ly _).setCell ly _).setCell ly _)) (fail);all_goals
         go_wp2_with fail;go_meet;exact⟨rfl,rfl⟩
       case rest =>
       obtain⟨rfl,rfl⟩:=hcut;have n8:=ae ((BS wr).alloc ly (N #[U l.e,ZF l.ask,ZF l.has,J I 0] 65)).drew;have X:Hid ((ZU wr (N #[U l.e,ZF l.ask,ZF l.has,J I 0] 65)).drew.heap[z (B wr)]?=Q (N #[U l.e,ZF l.ask,ZF l.has,J I 0] 65 (0,0))):=gM wr _;clear m4 f0 f1 f2 C;generalize World.drew (World.alloc wr _)=aq at n8 X ⊢;have JR:=ae (JO.aa n8 JO.lt);have JU:=ae ((n8.p _ ml).k J8);have Kf:=ae (K_ Kd n8 ly);have Kq:=ae (K_ JX n8 ly);have n9:=ae (DQ.k (n8.P DQ.size));have k1:ZV aq (T (z (B wr)) 1 Y)=Q (ZF l.ask):=by simp[World.cell?,X.i]
       go_upto_if 94 with fail;clear k1;go_cut [] (λwx=>∃q:Int,Hid (du (lkD f l)=[U l.e,ZF l.ask,ZF l.has,J I q])/\Hid (wx.heap[z (B wr)]?=Q (N #[U l.e,ZF l.ask,ZF l.has,J I q] 65 (0,0)))/\LkI S f x Z8 o (Q (T K 0 Y)) y ZT g4 ZO c4 r al k ZS wx);case first =>
        cases hask:l.ask with
        |false =>go_wp2;go_meet;exact⟨0,by show _=_;simp[du,lkD,hask],X,JR,JU,Kf,Kq,n9⟩
        |true =>
         obtain⟨q,hq⟩:∃q:Int,q=((iw f l.e:Nat):Int):=⟨_,rfl⟩
         have Lb:=ae ((n9.p _ (ah k4)).k k4);have ac:ZV aq (T (z (B w)+1) 0 Y)=Q (Z ZN i c5):=by simp[World.cell?,Lb.i]
         have acl:=ah Lb.i;have Ly:ZV aq (T (z (B wr)) 0 Y)=Q (U l.e):=by simp[World.cell?,X.i]
         have CA:Hid (Calls Pg 122 #[ZJ #[Z ZN i c5],U l.e] aq λe w'=>e=ZI (J I q)/\Below (z (B aq)) aq w'):=by
          have hd:SlDeed aq ZN i (dF (R.map (·.1))):=by have h:=D4.aa n9.i ly;rw[<-Fm] at h ⊢;exact h.bd
          have h:=DU ZN i c5 (dF (R.map (·.1))) l.e aq (by omega) hd;rw[Gr KV.i HX.i (J1 HL.i) hask Ke.i,<-hq] at h;exact h
         have HQ:=ae hq;clear hq;go_wp2_with fail;refine CA.P ?_;rintro e JW⟨rfl,P⟩;have Fk:=(P.p _ (ah X)).k X;have q3:ZV JW (T (z (B wr)) 3 Y)=Q (J I 0):=by simp[World.cell?,Fk]
         have qf3:ZW JW (T (z (B wr)) 3 Y)=ZA:=by simp[World.frozen?,Fk]
         have ql3:=ah Fk;have H:Hid ((JW.setCell (T (z (B wr)) 3 Y) (J I q)).heap[z (B wr)]?=Q (N #[U l.e,ZF l.ask,ZF l.has,J I q] 65 (0,0))):=aw Fk _;have bt:=ae ((JR.aa P JR.lt).far (p:=(T (z (B wr)) 3 Y)) (by show (z (B wr))≠z (B r)+1;omega) (J I q));have DE:Hid ((JW.setCell (T (z (B wr)) 3 Y) (J I q)).heap[z (B r)]?=Q (N #[U x.e,J I Z8,U o,Z Y 0 0,Z (Q (T K 0 Y)) y ZT,ZF ZH] 188 (0,0))):=(qh _ _ _ _ (show (z (B r))≠z (B wr) by omega)).k ((P.p _ (ah JU)).k JU);have JN:=ae (aB (K_ Kf P ly) (b:=z (B wr)) (λe=>by have:=(Kd.lt _ e).2;omega) 3 (J I q));have JI:=ae (aB (K_ Kq P ly) (b:=z (B wr)) (λe=>by have:=(JX.lt _ e).2;omega) 3 (J I q));have Hx:=ae ((n9.k (P.P n9.size)).setCell (p:=(T (z (B wr)) 3 Y)) (by show (z (B r))<=z (B wr);omega) (J I q));clear Fk P ac Ly;go_wp2;go_meet;exact⟨q,by show _=_;simp[du,lkD,hask,HQ.i],H,bt,DE,JN,JI,Hx⟩
       case rest =>
       obtain⟨q,LI,H,bt,DE,JN,JI,Hx⟩:=hcut;clear X JR JU Kf Kq n9;generalize wc=G at H bt DE JN JI Hx ⊢;have l0:ZV G (T (z (B wr)) 0 Y)=Q (U l.e):=by simp[World.cell?,H.i]
       have l1:ZV G (T (z (B wr)) 1 Y)=Q (ZF l.ask):=by simp[World.cell?,H.i]
       have l2:ZV G (T (z (B wr)) 2 Y)=Q (ZF l.has):=by simp[World.cell?,H.i]
       have l3:ZV G (T (z (B wr)) 3 Y)=Q (J I q):=by simp[World.cell?,H.i]
       have ll:=ah H.i;obtain⟨e5,ef5⟩:=bt.c5;have AL:=ae ((BS G).alloc ly (N #[U l.e,ZF l.ask,ZF l.has,J I q] 65));have XA:=ae (bt.aa AL bt.lt);have mA:=ae ((AL.p _ (ah DE)).k DE);have OA:=ae (K_ JN AL ly);have PA:=ae (K_ JI AL ly);have BA:=ae (Hx.k (AL.P Hx.size));have LM:z (B (ZU G (N #[U l.e,ZF l.ask,ZF l.has,J I q] 65)))=z (B G)+1:=by simp
       have hzW:z (B r)+2<=z (B G):=bt.lt;go_wp2_with (at_builtin;refine DN _ rfl (.tmp 101) (.tmp 103) 60 rfl (z (B r)+2) 65 il (ZJ #[U ⟨#[]⟩,ZF ZA,ZF ZA,J I 0]) 4 32 SV LD Ll Lf Le rfl (by decide) (Z al k ZS) k (lkV f (x.D.take k)) (by simp[Act.eval]) PA.i (T (z (B G)) 0 Y) 1 1 [U l.e,ZF l.ask,ZF l.has,J I q] (by simp[Act.eval]) rfl (rU G _ _ _ _ _) (by simp[Value.oneCell']) (by unfold maxLen;omega) (by omega) (by omega) ?_;intro v' wz ZR D _;obtain⟨az,cz,rfl⟩:=bM ZR;rw[<-LI.i,<-pN f x.D HL.i] at ZR;have PZ:=ae ZR;have GZ:=ae D;have XZ:=ae (XA.grown PA D (eL _));obtain⟨z5,zf5⟩:=XZ.c5;have zl:=XZ.lt;clear ZR D);have XY:=ae (XZ.set5 (Z az (k+1) cz));have mY:Hid ((wz.setCell (T (z (B r)+1) 5 Y) (Z az (k+1) cz)).heap[z (B r)]?=Q (N #[U x.e,J I Z8,U o,Z Y 0 0,Z (Q (T K 0 Y)) y ZT,ZF ZH] 188 (0,0))):=(qh _ _ _ _ (show (z (B r))≠z (B r)+1 by omega)).k ((GZ.p _ (ah mA) (λe=>by have:=(PA.lt _ e.c).1;omega)).k mA);have OY:=ae (aH (R:=z (B r)+1) (j:=5) (og OA PA GZ (by decide)) (by omega) (Z az (k+1) cz));have PY:=ae (aH (R:=z (B r)+1) (j:=5) PZ (by omega) (Z az (k+1) cz));have BY:=ae ((bg BA GZ (by omega) (λj e=>by have:=(PA.lt j e).1;omega)).setCell (p:=(T (z (B r)+1) 5 Y)) (BV _) (Z az (k+1) cz));exact⟨⟨k+1,az,cz,by omega,by go_num,XY,mY,OY,PY,BY⟩,by simp[intOf];omega⟩
      ·have e:k=y:=by omega
       subst e;have XT:Hid (DBox wr (z (B r)+1) (U x.e) (J I x.L) (J I x.M) (U x.H) (Z (Q (T g4 0 Y)) ZO c4) (Z al k ZS)):=by show DBox _ _ _ _ _ _ _ _;rw[HK.i,<-JK.1,<-JK.2];exact JO
       have ST:Hid (DSub wr (z (B r)) (bo S f x,Z (Q (T g4 0 Y)) ZO c4,Z al k ZS)):=by
        refine⟨?_,?_⟩;{show ZX World wr (z (B r)) 102 3 (Z (Q (T g4 0 Y)) ZO c4) (bP S x) (bZ (S.f1 x.tg).q (bP S x));rw[LG.i];exact aE Kd (by omega)};{show ZX World wr (z (B r)) 65 4 (Z al k ZS) (A x.D) (cy (lkF f x.D) (A x.D));rw[yC,<-GS.i];have h:=JX.i;rw[NV (by rw[<-GS.i];exact p7 _)] at h;exact aE h (by omega)}
       go_wp2;go_meet;exact⟨_,_,_,_,_,_,XT,ST,DQ⟩
    all_goals
     obtain⟨ZY,hz⟩:∃ZY,ZY=eh (atI (nm0 S.f0) S.n0 x.e):=⟨_,rfl⟩
     have HK:=ae hk;have Ku:=ae th;have LJ:=ae J0;have C:Hid (∀V,Below (z (B w7)) w7 V->ZV V (T hb 0 Y)=Q (Z a0 S.n0 c0)/\ZV V (T hb 1 Y)=Q (Z a1 S.n1 c1)/\ZV V (T (z (B wr)) 0 Y)=Q (U x.e)):=λV g=>⟨(g.O (p:=(T hb 0 Y)) qr.lt).k qr.c0,(g.O (p:=(T hb 1 Y)) qr.lt).k qr.c1,(g.O (p:=(T (z (B wr)) 0 Y)) (by show (z (B wr))<_;omega)).k (by simp[World.cell?,m7.i])⟩
     have CT:Hid (∀V,Below (z (B w7)) w7 V->Calls Pg 27 #[ZJ #[Z a0 S.n0 c0,Z a1 S.n1 c1],U x.e] V λe w'=>e=ZI (J I ZY)/\Below (z (B V)) V w'):=λV g=>by rw[hz];exact iP a0 S.n0 c0 a1 S.n1 c1 S.f0 x.e V (by have:=JH.bb;omega) (V0.aa (JP.k (g.P JP.size)) ly)
     have HZ:=ae hz;have Kg:ZP=-1:=by rw[HT.i,show atI (nm1 S.f1) S.n1 x.e=Y by first|exact ur|exact oZ JH.i KQ];rfl
     subst Kg;clear hk th J0 hz;go_wp2_with fail
     go_region_held3 (λV=>ZV V (T hb 0 Y)=Q (Z a0 S.n0 c0)/\ZV V (T hb 1 Y)=Q (Z a1 S.n1 c1)/\ZV V (T (z (B wr)) 0 Y)=Q (U x.e)) (first|exact C _ br|exact C _ br.drew|exact C _ D8) (first
      |(go_at_call 27;refine(CT _ (by first|exact br.drew|exact a8 _ _)).P ?_;rintro e w8⟨rfl,ph⟩;have D8:Hid (Below (z (B w7)) w7 w8):=⟨ph.os,ph.tape,ph.output,ph.size,ph.p⟩;clear ph))
     have X8:=ae (X7.aa D8 X7.lt);have B8:=ae (B7.k (D8.P B7.size));obtain⟨d1,Kv⟩:=X8.c1;have KU:=X8.lt
    ·obtain rfl:ZY=(si:Int):=by rw[HZ.i,KQ];rfl
     have JK:Hid (o=x.H):=by show o=x.H;rw[Kt.i];unfold dt;rw[eI (by rw[HK.i];decide)]
     have hsi0:(0:Int)<=(si:Int):=by omega
     obtain⟨d3,KZ⟩:=X8.c3;have m8:=(D8.p _ (ah m7)).k m7;have q2:ZV w8 (T (z (B wr)) 2 Y)=Q (U o):=by simp[World.cell?,m8]
     have BT:=ae ((B8.setCell (p:=(T (z (B wr)+1) 1 Y)) (BV _) (J I 1)).setCell (p:=(T (z (B wr)+1) 3 Y)) (BV _) (U o));clear m8;go_wp2;go_meet;exact⟨Y,Y,0,0,0,0,(by show DBox _ _ _ _ _ _ _ _;rw[HK.i,Ku.i,<-JK.i];exact(X8.set1 _).set3 _),wB (by unfold bP;rw[eI (by rw[HK.i];decide)]) hlk _ _,BT⟩
    ·obtain rfl:ZY=-1:=by rw[HZ.i,J9];rfl
     have BT:=ae (B8.setCell (p:=(T (z (B wr)+1) 1 Y)) (BV _) (J I 2));go_wp2;go_meet;exact⟨Y,Y,0,0,0,0,(by show DBox _ _ _ _ _ _ _ _;rw[HK.i,Ku.i,LJ.i];exact X8.set1 _),wB (by unfold bP;rw[eI (by rw[HK.i];decide)]) hlk _ _,BT⟩
   case rest =>
   obtain⟨aa,al,na,nl,ca,ZS,XT,ST,BT⟩:=hcut;have kT:=ae ((BT.p _ (ah k4)).k k4);have J5:=ae ((BT.p _ (ah la)).k la);clear X7 m7 k7 KN qr JP B7 Km;generalize wc=W8 at XT ST BT kT J5 ⊢;obtain⟨t0,_⟩:=XT.c0;obtain⟨t1,_⟩:=XT.c1;obtain⟨t2,_⟩:=XT.c2;obtain⟨t3,_⟩:=XT.c3;obtain⟨t4,_⟩:=XT.c4;obtain⟨t5,_⟩:=XT.c5;have kc:ZV W8 (T (z (B w)+1) 0 Y)=Q (Z ZN i c5):=by simp[World.cell?,kT.i]
   have AL:=ae ((BS W8).alloc ly (N #[U x.e,J I x.L,J I x.M,U x.H,Z aa na ca,Z al nl ZS] 62));have DA:=ae (D4.aa (BT.k (AL.P BT.size)) ly);have SA:=ae (ST.aa AL ly);have kA:=ae ((AL.p _ (ah kT)).k kT);have Kw:=ae ((AL.p _ (ah J5)).k J5);have BA:=ae (B4.k ((BT.k (AL.P BT.size)).P (by omega)));have OW:Hid (ZX World (ZU W8 (N #[U x.e,J I x.L,J I x.M,U x.H,Z aa na ca,Z al nl ZS] 62)) (z (B w)+2) 62 6 (Z ZN i c5) i (R.flatMap ddV)):=by have h:=DA.u;rw[Fm] at h;exact h
   have J4:Hid (∀j,(Value.slice ZN i c5).ownBlock=Q j->z (B w)+2<=j):=λj e=>(OW.lt j e).1;have LM:z (B (ZU W8 (N #[U x.e,J I x.L,J I x.M,U x.H,Z aa na ca,Z al nl ZS] 62)))=z (B W8)+1:=by simp
   have hzT:=BT.size;go_wp2_with (at_builtin;refine DN _ rfl (.tmp 121) (.tmp 123) 23 rfl (z (B w)+2) 62 LN (ZJ #[U ⟨#[]⟩,J I 0,J I 0,U ⟨#[]⟩,Z Y 0 0,Z Y 0 0]) 6 96 QC Lq Lo Lg Ln rfl (by decide) (Z ZN i c5) i (R.flatMap ddV) (by simp[Act.eval]) OW.i (T (z (B W8)) 0 Y) 1 1 [U x.e,J I x.L,J I x.M,U x.H,Z aa na ca,Z al nl ZS] (by simp[Act.eval]) rfl (Ds W8 _ _ _ _ _ _ _) (by simp[Value.oneCell']) (by unfold maxLen;omega) (by omega) (by omega) ?_;intro v' w9 ZR D _;obtain⟨a7,c7,rfl⟩:=bM ZR;have O9:=ae ZR;have G9:=ae D;have k9:=ae ((D.p _ (ah kA) (λe=>by have:=J4.i _ e.c;omega)).k kA);have g9:ZV w9 (T (z (B w)+1) 0 Y)=Q (Z ZN i c5):=(by simp[World.cell?,k9.i]);have f9:ZW w9 (T (z (B w)+1) 0 Y)=ZA:=(by simp[World.frozen?,k9.i]);have l9:=ah k9.i;clear ZR D);have D9:Hid (DRow w9 (z (B w)+2) (Z a7 (i+1) c7) (R++[(bo S f x,Z aa na ca,Z al nl ZS)])):=DRow.more D4 DA (by omega) SA (by rw[Fm];exact O9) G9;have LE:=ae ((G9.p _ (ah Kw) (λe=>by have:=J4.i _ e.c;omega)).k Kw);have B9:=ae (bg BA G9 (by omega) (λj e=>by have:=J4.i j e;omega));have LB:=ae (D9.set (p:=(T (z (B w)+1) 0 Y)) (e:=25) (.inl (eL _)) (Z a7 (i+1) c7));have LH:Hid ((w9.setCell (T (z (B w)+1) 0 Y) (Z a7 (i+1) c7)).heap[z (B w)+1]?=Q (N #[Z a7 (i+1) c7] 25 (0,0))):=aw k9 _;have Ld:Hid ((w9.setCell (T (z (B w)+1) 0 Y) (Z a7 (i+1) c7)).heap[z (B w)]?=Q (N #[Z Y 0 0] 25 (0,0))):=(qh _ _ _ _ (show (z (B w))≠z (B w)+1 by omega)).k LE.i;have Lz:=ae (B9.setCell (p:=(T (z (B w)+1) 0 Y)) (BV _) (Z a7 (i+1) c7));refine⟨⟨i+1,a7,c7,_,by omega,by go_num,by rw[cM,Fm];rfl,?_,LB,LH,Ld,Lz⟩,by simp[intOf];omega⟩;show(R++[((bo S f x,Z aa na ca,Z al nl ZS):DR)]).map (·.1)=_;rw[NE,Ke.i,V4,HX.i];simp
  ·have e:i=n:=by omega
   subst e;have Lr:ZV wr (T (z (B w)) 0 Y)=Q (Z Y 0 0):=by simp[World.cell?,la.i]
   have rf0:ZW wr (T (z (B w)) 0 Y)=ZA:=by simp[World.frozen?,la.i]
   have rl0:=ah la.i;have ac0:ZV wr (T (z (B w)+1) 0 Y)=Q (Z ZN i c5):=by simp[World.cell?,k4.i]
   have al0:=ah k4.i;go_wp2;refine bp (v:=ZJ #[Z ZN i c5]) (by simp[results,results80,go_sem,Lr]) rfl ?_;subst Fm;refine⟨ZN,c5,R,rfl,?_,?_,?_⟩;{exact(D4.set (p:=(T (z (B w)) 0 Y)) (e:=25) (.inl (show (z (B w))<z (B w)+2 by omega)) _).P (by omega)};{rw[Ke.i,NV (by rw[<-HN.i];exact p7 _)];rfl};{exact B4.setCell (p:=(T (z (B w)) 0 Y)) ly _}
end
def wD (w:E)(S:J_)(b:List k_ × jj)(e:Ending)(f:E):Prop:=∃a c R g,e=ZI (.tuple #[ZJ #[Z a (A R) c],g])/\DRow f (z (B w)) (Z a (A R) c) R/\R.map (·.1)=bk S b.1/\oJ w f b.2 g/\Below (z (B w)) w f
section
variable {S:J_}{a0 a1:O_}{c0 c1:Nat}
def wE (w:E)(nm:F_)(u:Qy w a0 S.n0 S.f0)(t:Qx w a1 S.n1 S.f1)(hn0:S.n0<=1048576)(hn1:S.n1<=1048576)(q:∀i,i<S.n1->aP (S.f1 i))(H:∀i,i<S.n1->∀j,j<(S.f1 i).h->((S.f1 i).q j).s.size<=maxLen)(m:¬ (aR S.n0 S.f0 S.n1 S.f1=0/\aA nm=ZH)):Calls Pg 49 #[ZJ #[Z a0 S.n0 c0,Z a1 S.n1 c1],U nm] w λe ZQ=>wD w S ([],⟨9,⟨#[]⟩,[]⟩) e ZQ:=by
 have Z8:=ae (λ(o:E) (b:Hid (Below (z (B w)) w o))=>eK a0 S.n0 c0 S.f0 a1 S.n1 c1 S.f1 o (by omega) (by omega) (u.aa b ly) (t.aa b ly) q H);obtain⟨ZY,x⟩:∃ZY,ZY=aR S.n0 S.f0 S.n1 S.f1:=⟨_,rfl⟩
 rw[<-x] at Z8 m;have C:=ae m;clear u t q H x m hn0 hn1;go_enter func49,ntmps49;go_wp2_with fail;generalize ZT:World.alloc (World.alloc (World.alloc w _) _) _=o;obtain⟨b,ZR,l,f,-⟩:=nb3 ZT;replace f:Hid (o.heap[z (B w)+1+1]?=_):=f;clear ZT;refine(Z8 o b).P ?_;clear Z8;rintro e ZS⟨rfl,g⟩;replace b:=ae (b.k (g.P b.size));replace l:=ae ((g.p _ (ah l)).k l);replace f:=ae ((g.p _ (ah f)).k f);clear g ZR;by_cases G:ZY=0;case' pos =>
  have D:Hid (aA nm=ZA):=by
   cases h:aA nm with
   |false=>rfl
   |true=>exact absurd ⟨G,h⟩ C
  subst G;go_wp2_with fail;refine(dl nm ZS).P ?_;rintro e y⟨ZZ,g⟩;rw[D.i] at ZZ;subst ZZ;replace b:=ae (b.k (g.P b.size));replace l:=ae ((g.p _ (ah l)).k l);replace f:=ae ((g.p _ (ah f)).k f);clear g
 case' neg =>
  obtain⟨y,M⟩:∃v,v=ZS:=⟨_,rfl⟩
  subst M
 all_goals
  have K:=b;have n:=l.i;obtain⟨rl,r0,r1,L,r⟩:=bR f.i;have rf0:=r 0;have rf1:=r 1;have rf2:=r 2;have O:ZV y (T (z (B w)+1) 0 Y)=Q (Z Y 0 0):=by simp[World.cell?,n]
  have pf0:ZW y (T (z (B w)+1) 0 Y)=ZA:=by simp[World.frozen?,n]
  have pl:=ah n;clear r n l f;go_wp2_with fail;refine bp (v:=.tuple #[ZJ #[Z Y 0 0],ZJ #[J I 9,U ⟨#[]⟩,Z Y 0 0]]) (by simp[results,results49,go_sem,O,r0,r1,L]) rfl ⟨Y,0,[],_,rfl,jK _ _,rfl,kw _ _ _ _,?_⟩;exact(((K.setCell (p:=(T (z (B w)+1) 0 Y)) (BV _) _).setCell (p:=(T (z (B w)+1+1) 0 Y)) (by show (z (B w))<=z (B w)+1+1;omega) _).setCell (p:=(T (z (B w)+1+1) 1 Y)) (by show (z (B w))<=z (B w)+1+1;omega) _).setCell (p:=(T (z (B w)+1+1) 2 Y)) (by show (z (B w))<=z (B w)+1+1;omega) _
def xJ (w:E)(nm:F_)(bt:Qy w a0 S.n0 S.f0)(aq:Qx w a1 S.n1 S.f1)(hn0:S.n0<=1048576)(hn1:S.n1<=1048576)(ZN:∀i,i<S.n1->aP (S.f1 i))(hs:∀i,i<S.n1->∀j,j<(S.f1 i).h->((S.f1 i).q j).s.size<=maxLen)(h1:aR S.n0 S.f0 S.n1 S.f1=0)(h2:aA nm=ZH):Calls Pg 49 #[ZJ #[Z a0 S.n0 c0,Z a1 S.n1 c1],U nm] w λe w'=>wD w S (bE S nm) e w':=by
 have HC:=ae (λ(W0:E) (A0:Hid (Below (z (B w)) w W0))=>eK a0 S.n0 c0 S.f0 a1 S.n1 c1 S.f1 W0 (by omega) (by omega) (bt.aa A0 ly) (aq.aa A0 ly) ZN hs);have V0:=ae bt;have V1:=ae aq;have JP:=ae ZN;have qr:=ae (SpcOk.of h1);have H1:=ae h1;have H2:=ae h2;rw[h1] at HC;obtain⟨bb,ZO⟩:∃bb,bb=bE S nm:=⟨_,rfl⟩
 obtain⟨la,o,-⟩:=mh S nm;rw[<-ZO] at la o ⊢;unfold bE at ZO;rw[eT ⟨h1,h2⟩] at ZO;have fd:=ae ZO;have JL:=ae la;have GS:=ae o;clear bt aq ZN hs hn0 hn1 h1 h2 ZO la o;go_enter func49,ntmps49;go_wp2_with fail;generalize hW:World.alloc (World.alloc (World.alloc w _) _) _=W0;obtain⟨A0,kS,kA,kR,-⟩:=nb3 hW;replace kR:Hid (W0.heap[z (B w)+1+1]?=_):=kR;clear hW;refine(HC W0 A0).P ?_;clear HC;rintro e w1⟨rfl,m⟩;have B1:=ae (A0.k (m.P A0.size));have sm:=ae ((m.p _ (ah kA)).k kA);have Bk:=ae ((m.p _ (ah kR)).k kR);have ro:=ae ((m.p _ (ah kS)).k kS);clear m;go_wp2_with fail;refine(dl nm w1).P ?_;rintro e ZL⟨he,m⟩;rw[H2.i] at he;subst he;have B2:=ae (B1.k (m.P B1.size));have DQ:=ae ((m.p _ (ah sm)).k sm);have th:=ae ((m.p _ (ah Bk)).k Bk);have mv:=ae ((m.p _ (ah ro)).k ro);have hsl:z (B w)<z (B ZL):=ah mv.i;have q0:ZV ZL (T (z (B w)) 0 Y)=Q (Z a0 S.n0 c0):=by simp[World.cell?,mv.i]
 have q1:ZV ZL (T (z (B w)) 1 Y)=Q (Z a1 S.n1 c1):=by simp[World.cell?,mv.i]
 clear m;go_wp2_with fail;refine(xH ZL ⟨V0.aa B2 ly,V1.aa B2 ly,qr⟩ nm H2).P ?_;rintro e f⟨hb,rfl,l,m⟩;have B3:=ae (B2.k (m.P B2.size));have t:=ae ((m.p _ (ah DQ)).k DQ);have q:=ae ((m.p _ (ah th)).k th);clear q0 q1 m;have P:z (B w)<=z (B f):=B3.size;have C:=xI S 60 [] [] nm;rcases hl:aT S 60 [] [] nm with⟨y,x⟩|c|d
 ·rw[hl] at l;obtain⟨r,n⟩:∃r,r=dt x:=⟨_,rfl⟩
  have e:bb=(y,r):=by rw[fd.i,hl,n]
  subst e;obtain⟨L,md,or,st,g,Fd,DE,At,hrel⟩:=l;obtain⟨M,b0,b1,b2,b3,-,b5,b6,b7,b8,-⟩:=g.y;have Id:Hid (ShAt (z (B ZL)) f hb (Z a0 S.n0 c0) (Z a1 S.n1 c1) md or L y):=⟨M,b0,b1,b2,b3,Fd,DE,At⟩
  have Fm:=ae hrel;have n9:r.R=[]:=by rw[n];unfold dt;split<;>rfl
  rw[<-n] at b5 b6;have n8:=ae n9;have SQ:Hid (∀V:E,V.heap[hb]?=f.heap[hb]?->ZV V (T hb 5 Y)=Q (J I r.M)/\ZV V (T hb 6 Y)=Q (U r.H)/\ZV V (T hb 7 Y)=Q (Z Y 0 0)):=λV h=>⟨(cq (a:=(T hb 5 Y)) h).k b5,(cq (a:=(T hb 6 Y)) h).k b6,(cq (a:=(T hb 7 Y)) h).k b7⟩
  have W:hb≠z (B w)+1:=λe=>by have:=ar g (e ▸ t.i);exact absurd this (by decide)
  have H:hb≠z (B w)+1+1:=λe=>by have:=ar g (e ▸ q.i);exact absurd this (by decide)
  have CM:Hid (Calls Pg 80 #[.pointer (Q (T hb 0 Y))] f.drew λe w'=>∃a c R,e=ZI (ZJ #[Z a (A R) c])/\DRow w' (z (B f)) (Z a (A R) c) R/\R.map (·.1)=bk S y/\Below (z (B f)) f w'):=by have hd:Below (z (B f)) f f.drew:=br.drew;have h:=AE (z (B ZL)) f.drew hb md or L y (Id.aa hd ly) Fm JL GS (V0.aa (B3.k (hd.P P)) ly) (V1.aa (B3.k (hd.P P)) ly) qr JP;exact h.P λe w' ⟨a,c,R,h1,h2,h3,h4⟩=>⟨a,c,R,h1,h2,h3,h4.os,h4.tape,h4.output,h4.size,h4.p⟩
  clear n n9 hrel g Fd DE At b0 b1 b2 b3 hl C;go_wp2_with fail;refine wp_region_held_drew (S:=λV=>ZV V (T hb 5 Y)=Q (J I r.M)/\ZV V (T hb 6 Y)=Q (U r.H)/\ZV V (T hb 7 Y)=Q (Z Y 0 0)) (by kernel_rfl) (SQ _ rfl) ?_;intro hS;have ZQ:=ae hS;clear hS b5 b6 b7 b8;refine aN 0 (v:=?_) rfl rfl (by kernel_rfl) (λ_ _ _ h=>h) rfl ?_ ZQ ?_;rotate_left
  ·(rintro wz⟨s0,s1,s2⟩;go_simp)
   (try with_reducible rfl)
  (try simp only[Act.put,z_])
  iterate 4
   refine aN 2 (v:=?_) rfl rfl (by kernel_rfl) (λ_ _ _ h=>h) rfl ?_ ZQ ?_;rotate_left
   ·(rintro wz⟨s0,s1,s2⟩;go_simp)
    (try with_reducible rfl)
   (try simp only[Act.put,z_])
  refine aL (i:=1) rfl (by kernel_rfl) λK Z8=>?_;go_simp;go_at_call 80;refine CM.P ?_;rintro e w4⟨X,c5,R,rfl,ur,ph,Fk⟩;have D4:=ae ur;have M4:=ae ph;have B4:=ae Fk;clear ur ph Fk ZQ;have ZQ:=ae (SQ w4 (B4.p _ M));refine Z8 _ _ ZQ ?_;clear Z8 K
  (try simp only[Act.put,z_])
  refine aL (i:=6) rfl (by kernel_rfl) λK Z8=>?_;go_simp;go_at_call 79;have CC:=qW w4 r Y 0 (z (B w4)) (by rw[n8.i];exact⟨rfl,.inl ⟨rfl,rfl⟩⟩) (by rw[n8.i];exact DW _);rw[n8.i] at CC;refine CC.P ?_;clear CC;rintro e ZP⟨rv,rfl,⟨ZY,D,rfl,ZR⟩,O⟩;have ZZ:=ae ZR;have ZT:=ae O;have ZM:z (B f)<=z (B w4):=B4.size;have u:=(ZT.p _ (lj (ah t) ZM)).k ((B4.p _ (ah t)).k t);have ZS:=(ZT.p _ (lj (ah q) ZM)).k ((B4.p _ (ah q)).k q);obtain⟨rl,r0,r1,r2,G⟩:=bR ZS;have JI:=G 0;have JM:=G 1;have JJ:=G 2;have p0:ZV ZP (T (z (B w)+1) 0 Y)=Q (Z Y 0 0):=by simp[World.cell?,u]
  have Hx:ZW ZP (T (z (B w)+1) 0 Y)=ZA:=by simp[World.frozen?,u]
  have pl:=ah u;have JH:z (B w)+1<z (B f):=ah t.i;have JO:z (B w)+1+1<z (B f):=ah q.i;have ld:=(ZT.p hb (lj M ZM)).k (B4.p hb M);clear G u ZS ZQ ZR O;have ZQ:=ae (SQ ZP ld);refine Z8 _ _ ZQ ?_;clear Z8 K
  (try simp only[Act.put,z_])
  refine aL (i:=7) rfl (by kernel_rfl) λK Z8=>?_;go_simp;have JG:=ae (SQ (ZP.setCell (T (z (B w)+1) 0 Y) (Z X (A R) c5)) ((qh _ _ _ _ W).k ld));refine Z8 _ _ JG ?_;clear Z8 K
  (try simp only[Act.put])
  have JK:=ae (SQ ((((ZP.setCell (T (z (B w)+1) 0 Y) (Z X (A R) c5)).setCell (T (z (B w)+1+1) 0 Y) (J I r.M)).setCell (T (z (B w)+1+1) 1 Y) (U r.H)).setCell (T (z (B w)+1+1) 2 Y) (Z ZY (A r.R) D)) ((qh _ _ _ _ H).k ((qh _ _ _ _ H).k ((qh _ _ _ _ H).k ((qh _ _ _ _ W).k ld)))));refine aL (i:=8) rfl (by kernel_rfl) λK Z8=>?_;go_simp;refine Z8 _ _ JK ?_;clear Z8 K
  (try simp only[Act.put])
  refine wpAnyH_done (by kernel_rfl) ?_ _;have OF:=ae (aB (aB (aB (aB ZZ (b:=z (B w)+1) (λe=>by have:=(af ZZ _ e).1;omega) 0 (Z X (A R) c5)) (b:=z (B w)+1+1) (λe=>by have:=(af ZZ _ e).1;omega) 0 (J I r.M)) (b:=z (B w)+1+1) (λe=>by have:=(af ZZ _ e).1;omega) 1 (U r.H)) (b:=z (B w)+1+1) (λe=>by have:=(af ZZ _ e).1;omega) 2 (Z ZY (A r.R) D));have DF:=ae (((((D4.aa ZT ly).set (p:=(T (z (B w)+1) 0 Y)) (e:=25) (.inl (by show (z (B w))+1<z (B f);omega)) (Z X (A R) c5)).set (p:=(T (z (B w)+1+1) 0 Y)) (e:=25) (.inl (by show (z (B w))+1+1<z (B f);omega)) (J I r.M)).set (p:=(T (z (B w)+1+1) 1 Y)) (e:=25) (.inl (by show (z (B w))+1+1<z (B f);omega)) (U r.H)).set (p:=(T (z (B w)+1+1) 2 Y)) (e:=25) (.inl (by show (z (B w))+1+1<z (B f);omega)) (Z ZY (A r.R) D));have BF:=ae (((((B3.k ((B4.k (ZT.P ZM)).P P)).setCell (p:=(T (z (B w)+1) 0 Y)) (by show (z (B w))<=z (B w)+1;omega) (Z X (A R) c5)).setCell (p:=(T (z (B w)+1+1) 0 Y)) (by show (z (B w))<=z (B w)+1+1;omega) (J I r.M)).setCell (p:=(T (z (B w)+1+1) 1 Y)) (by show (z (B w))<=z (B w)+1+1;omega) (U r.H)).setCell (p:=(T (z (B w)+1+1) 2 Y)) (by show (z (B w))<=z (B w)+1+1;omega) (Z ZY (A r.R) D));go_wp2;refine bp (v:=.tuple #[ZJ #[Z X (A R) c5],ZJ #[J I r.M,U r.H,Z ZY (A r.R) D]]) (by simp[results,results49,go_sem,p0,r0,r1,r2]) rfl ⟨X,c5,R,_,rfl,DF.P P,M4,⟨ZY,D,rfl,aE OF (by omega)⟩,BF⟩
 case' inr.inl =>
  rw[hl] at l;obtain⟨r,n⟩:∃r,r=jx c:=⟨_,rfl⟩
  have e:bb=([],r):=by rw[fd.i,hl,n];rfl
  subst e;obtain⟨a,k,u0,u1,md,or,st,g,ho⟩:=l;have o:A r.R<=1000:=by rw[n];exact nX (C c hl) (by simp)
  have l:A c=A r.R:=by rw[n];rfl
  rw[<-n,l] at g ho;clear n l
 case' inr.inr =>
  rw[hl] at l;obtain⟨r,n⟩:∃r,r=jy d:=⟨_,rfl⟩
  have e:bb=([],r):=by rw[fd.i,hl,n];rfl
  subst e;obtain⟨u0,u1,md,or,st,g,ho⟩:=l;have o:A r.R<=1000:=by rw[n];exact DW _
  have l:0=A r.R:=by rw[n];rfl
  rw[<-n,l] at g ho;clear n l
 all_goals
  obtain⟨M,-,-,-,-,-,b5,b6,b7,b8,-⟩:=g.y;have JN:=ae (qW f r _ _ _ ho o);have W:hb≠z (B w)+1:=λe=>by have:=ar g (e ▸ t.i);exact absurd this (by decide)
  have H:hb≠z (B w)+1+1:=λe=>by have:=ar g (e ▸ q.i);exact absurd this (by decide)
  clear hl C g ho o;go_wp2_with fail;refine JN.P ?_;rintro e ZP⟨rv,rfl,⟨ZY,D,rfl,ZR⟩,O⟩;have ZZ:=ae ZR;have ZT:=ae O;have u:=(ZT.p _ (ah t)).k t;have ZS:=(ZT.p _ (ah q)).k q;obtain⟨rl,r0,r1,r2,G⟩:=bR ZS;have JI:=G 0;have JM:=G 1;have JJ:=G 2;have p0:ZV ZP (T (z (B w)+1) 0 Y)=Q (Z Y 0 0):=by simp[World.cell?,u]
  have Hx:ZW ZP (T (z (B w)+1) 0 Y)=ZA:=by simp[World.frozen?,u]
  have pl:=ah u;have JH:z (B w)+1<z (B f):=ah t.i;have JO:z (B w)+1+1<z (B f):=ah q.i;have OF:=ae (aB (aB (aB (aB ZZ (b:=z (B w)+1) (λe=>by have:=(af ZZ _ e).1;omega) 0 (Z Y 0 0)) (b:=z (B w)+1+1) (λe=>by have:=(af ZZ _ e).1;omega) 0 (J I r.M)) (b:=z (B w)+1+1) (λe=>by have:=(af ZZ _ e).1;omega) 1 (U r.H)) (b:=z (B w)+1+1) (λe=>by have:=(af ZZ _ e).1;omega) 2 (Z ZY (A r.R) D));have BF:=ae (((((B3.k (ZT.P P)).setCell (p:=(T (z (B w)+1) 0 Y)) (by show (z (B w))<=z (B w)+1;omega) (Z Y 0 0)).setCell (p:=(T (z (B w)+1+1) 0 Y)) (by show (z (B w))<=z (B w)+1+1;omega) (J I r.M)).setCell (p:=(T (z (B w)+1+1) 1 Y)) (by show (z (B w))<=z (B w)+1+1;omega) (U r.H)).setCell (p:=(T (z (B w)+1+1) 2 Y)) (by show (z (B w))<=z (B w)+1+1;omega) (Z ZY (A r.R) D));clear G u ZS ZR O b5 b6 b7 b8;go_wp2_with fail;refine bp (v:=.tuple #[ZJ #[Z Y 0 0],ZJ #[J I r.M,U r.H,Z ZY (A r.R) D]]) (by simp[results,results49,go_sem,p0,r0,r1,r2]) rfl ⟨Y,0,[],_,rfl,jK _ _,rfl,⟨ZY,D,rfl,?_⟩,?_⟩
  ·first|exact aE OF (by omega)|(have h:=aE OF (show (z (B w))<=z (B f) by omega);simpa[p0] using h)
  ·first|exact BF|simpa[p0] using BF.i
def wF (w:E)(nm:F_)(g:Qy w a0 S.n0 S.f0)(f:Qx w a1 S.n1 S.f1)(hn0:S.n0<=1048576)(hn1:S.n1<=1048576)(b:∀i,i<S.n1->aP (S.f1 i))(l:∀i,i<S.n1->∀j,j<(S.f1 i).h->((S.f1 i).q j).s.size<=maxLen):Calls Pg 49 #[ZJ #[Z a0 S.n0 c0,Z a1 S.n1 c1],U nm] w λe m=>wD w S (bE S nm) e m:=by
 by_cases h:aR S.n0 S.f0 S.n1 S.f1=0/\aA nm=ZH;{exact xJ w nm g f hn0 hn1 b l h.1 h.2}
 ·have e:bE S nm=([],⟨9,⟨#[]⟩,[]⟩):=by unfold bE;rw[eI h]
  rw[e];exact wE w nm g f hn0 hn1 b l h
end
