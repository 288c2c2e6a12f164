import Derived.Test.YthkgkfehliinfaaGreatDoorEX
import Derived.Test.YthkgkfehliinfaaGreatDoorEQ
set_option linter.all false
set_option maxRecDepth 100000
set_option maxHeartbeats 8000000
open Go renaming Addr.mk->Q,Value.slice->Y,Value.string->U,Value.int->J,Value.bool->ZF,Value.agg->ZJ,Obj.cells->N,IntKind.i64->I,World->E,Value->ZB,Ending.returned->ZI,World.heap->z,World.ownsRow->ZY,World.alloc->ZV,World.cell?->ZW,World.frozen?->ZX,World.setCell->ZU,Proofs.Tryz.prog->Pg
open Option renaming none->Z,some->T
open Bool renaming false->ZA,true->ZH
open Array renaming size->B
open List renaming length->A
namespace Go.Proofs.YthkgkfehliinfaaGreatDoor.Vp
open Tryz RowKit Ca
variable {S:x_}{x:zt}{w:E}{L:List SM}{f b:List zt}{i:Nat}{l:Lk}
def Iq (f:E)(hb:Nat)(s0 s1:ZB)(b:E):Out zt->Prop
 |.inl (made',x)=>∃L g h st,ShBox b hb s0 s1 g h st (dt x).M (dt x).H (Y Z 0 0) ZA/\ZY b (B (z f)) 168 6 g (A L) (L.flatMap smV)/\ZY b (B (z f)) 9 1 h (A made') (bO (made'.map (·.e)))/\(∀m∈L,m.done=ZH->ZY b (B (z f)) 171 3 m.sv (A m.V) (eG m.V))/\fM L [] made'
 |.inr (.inl c)=>∃a k,jb f hb b (jx c) (Y a (A c) k)
 |.inr (.inr d)=>jb f hb b (jy d) (Y Z 0 0)
section
variable {S:x_}{a0 a1:O_}{c0 c1:Nat}
def xH (w:E)(C:pJ w S a0 a1)(nm:F_)(hn:aA nm=ZH):Calls Pg 61 #[ZJ #[Y a0 S.n0 c0,Y a1 S.n1 c1],U nm] w λe O=>∃hb,e=ZI (.pointer (T (Q hb 0 Z)))/\Iq w hb (Y a0 S.n0 c0) (Y a1 S.n1 c1) O (aT S 60 [] [] nm)/\Below (B (z w)) w O:=by
 obtain⟨R,hR⟩:∃R,R=aT S 60 [] [] nm:=⟨_,rfl⟩
 have HM:Hid (∀(W:E) (hb:Nat),SI w hb (Y a0 S.n0 c0) (Y a1 S.n1 c1) W [] [] [] (Y Z 0 0) (Y Z 0 0) (Y Z 0 0)->Calls Pg 98 #[.pointer (T (Q hb 0 Z)),U nm] W λe O=>mF w hb (Y a0 S.n0 c0) (Y a1 S.n1 c1) [] [] W e O R):=by intro W hb M;rw[hR];refine Gf C 60 [] [] [] _ _ _ W nm rfl M ⟨List.Pairwise.nil,rfl,λx Z8=>absurd Z8 nj,λx Z8=>absurd Z8 nj,λx Z8=>absurd Z8 nj⟩ (gv S []) ?_ (λx Z8=>absurd Z8 nj) hn;have h1:=wv S;have h2:=C.ok.bb;unfold fm;simp only[IS];omega
 rw[<-hR];have ZL:B (z (ZV w (N #[Y a0 S.n0 c0,Y a1 S.n1 c1] 29)))=B (z w)+1:=by simp
 obtain⟨W0,t⟩:∃W:E,ZV (ZV w (N #[Y a0 S.n0 c0,Y a1 S.n1 c1] 29)) (N #[Y a0 S.n0 c0,Y a1 S.n1 c1,Y Z 0 0,Y Z 0 0,Y Z 0 0,J I 0,U ⟨#[]⟩,Y Z 0 0,ZF ZA] 112)=W:=⟨_,rfl⟩
 obtain⟨ZP,-,-,-⟩:=nb2 t;have y:=ae t;clear t;have S0:Hid (SI w (B (z w)+1) (Y a0 S.n0 c0) (Y a1 S.n1 c1) W0 [] [] [] (Y Z 0 0) (Y Z 0 0) (Y Z 0 0)):=by
  cases y.i
  refine⟨ZP,BV _,?_,⟨rfl,.inl ⟨rfl,rfl⟩⟩,⟨rfl,.inl ⟨rfl,rfl⟩⟩,⟨rfl,.inl ⟨rfl,rfl⟩⟩,(λk h=>by cases h),λm V=>absurd V nj⟩;have h2:=gM (ZV w (N #[Y a0 S.n0 c0,Y a1 S.n1 c1] 29)) (N #[Y a0 S.n0 c0,Y a1 S.n1 c1,Y Z 0 0,Y Z 0 0,Y Z 0 0,J I 0,U ⟨#[]⟩,Y Z 0 0,ZF ZA] 112);rw[ZL] at h2;exact h2
 clear hn C hR ZL;go_enter func61,ntmps61;go_wp2_with fail;rw[y.i];clear y;obtain⟨hb,ZN⟩:∃hb,hb=B (z w)+1:=⟨_,rfl⟩
 rw[<-ZN] at S0 ⊢;have H:B (z w)<=hb:=by omega
 clear ZN;refine(HM W0 hb S0).P ?_;clear HM;rintro e r l;rcases R with⟨made',x⟩|c|d
 ·obtain⟨L,md,or,st,rfl,M,hrel,-,f⟩:=l;have o:=ae (ZP.k f.aa);have ex:=ae hrel;obtain⟨ZT,K⟩:∃ZT,ZT=(dt x).M:=⟨_,rfl⟩
  obtain⟨ZZ,ZS⟩:∃ZZ,ZZ=(dt x).H:=⟨_,rfl⟩
  have bt:=ae K;have la:=ae ZS;rw[<-K,<-ZS];have i:=ae ((BS r).alloc ly (N #[J I ZT,U ZZ,Y Z 0 0] 60));have D:=ae (M.aa i ly);clear f hrel M K ZS;obtain⟨ZO,-,-,-,-,-,b5,b6,b7,b8,P⟩:=D.ab.K;have bf5:=P 5;have bf6:=P 6;have bf7:=P 7;clear P;go_wp2_with fail;go_ret;have Z9:∀{size n:Nat} {ZQ:TypeId} {u:ZB} {X:List ZB},(r.alloc (N #[J I ZT,U ZZ,Y Z 0 0] 60)).ownsRow (B (z w)) ZQ size u n X->112≠ZQ->((((r.alloc (N #[J I ZT,U ZZ,Y Z 0 0] 60)).setCell (Q hb 5 Z) (J I ZT)).setCell (Q hb 6 Z) (U ZZ)).setCell (Q hb 7 Z) (Y Z 0 0)).ownsRow (B (z w)) ZQ size u n X:=λhr ht=>by
   rename_i size n ZQ u X;have G:u.ownBlock≠T hb:=λe=>by obtain⟨_,_,cs2,aq⟩:=af hr hb e;exact absurd (ar D.ab aq) ht
   exact aB (aB (aB hr G _ _) G _ _) G _ _
  refine⟨hb,rfl,⟨L,md,or,st,?_,Z9 D.X (by decide),Z9 D.ror (by decide),λm V hd=>Z9 (D.V m V hd) (by decide),ex⟩,?_⟩;{rw[<-bt.i,<-la.i];exact aw (aw (aw D.ab (j:=5) _) (j:=6) _) (j:=7) _};{exact(((o.k (i.P o.size)).setCell (p:=(Q hb 5 Z)) H _).setCell (p:=(Q hb 6 Z)) H _).setCell (p:=(Q hb 7 Z)) H _}
 {obtain⟨a,k,rfl,⟨s0,s1,ZM,fd,ld,g,b⟩,f⟩:=l;have s:=ae g;have ZR:=ae b;have o:=ae (ZP.k f.aa);clear g b f;unfold jl jx;dsimp only;have i:=ae ((BS r).alloc ly (N #[J I 6,U ⟨#[]⟩,Y a (A c) k] 60));have q:=ae (ShBox.ad s (i.p _ (ah s)));obtain⟨ZO,-,-,-,-,-,-,-,-,b8,-⟩:=q.K;go_wp2_with fail;go_ret;exact⟨hb,rfl,⟨a,k,_,_,_,_,_,q,J_ ZR i ly⟩,o.k (i.P o.size)⟩};{obtain⟨rfl,⟨s0,s1,ZM,fd,ld,g,b⟩,f⟩:=l;have s:=ae g;have ZR:=ae b;have o:=ae (ZP.k f.aa);clear g b f;unfold jl jy;dsimp only;have i:=ae ((BS r).alloc ly (N #[J I 7,U d,Y Z 0 0] 60));have q:=ae (ShBox.ad s (i.p _ (ah s)));obtain⟨ZO,-,-,-,-,-,-,-,-,b8,-⟩:=q.K;go_wp2_with fail;go_ret;exact⟨hb,rfl,⟨_,_,_,_,_,q,J_ ZR i ly⟩,o.k (i.P o.size)⟩}
end
def Gq (w:E)(Z8:Int)(x:F_)(ZT:List F_)(a:O_)(n c ZZ:Nat)(hn:n=A ZT)(hlen:n<=1000)(ho:ZY w ZZ 9 1 (Y a n c) n (bO ZT)):Calls Pg 62 #[ZJ #[J I Z8,U x,Y a n c]] w λe w'=>∃S,e=ZI S/\oJ w w' ⟨Z8,x,ZT⟩ S/\Below (B (z w)) w w':=by
 obtain⟨i1,ZM,X,ZO,R⟩:=lE pK;have HO:=ae ho;have ZS:=ae hn;clear ho hn;obtain⟨b,y⟩:∃W:E,ZV (ZV w (N #[J I Z8,U x,Y a n c] 60)) (N #[J I 0,U ⟨#[]⟩,Y Z 0 0] 60)=W:=⟨_,rfl⟩
 obtain⟨ZQ,kP,kR,-⟩:=nb2 y;have G:=ae y;clear y;go_enter func62,ntmps62;go_upto_region 1 with fail;rw[G.i];clear G;obtain⟨-,p0,ZN,p2,-⟩:=bR kP;have bt:B (z w)+1<B (z b):=ah kR.i;have H:Hid (∀V:E,(∀k,k<B (z b)->V.heap[k]?=b.heap[k]?)->ZW V (Q (B (z w)) 0 Z)=T (J I Z8)/\ZW V (Q (B (z w)) 1 Z)=T (U x)/\ZW V (Q (B (z w)) 2 Z)=T (Y a n c)):=λV O=>by have e:=cq (a:=(Q (B (z w)) 0 Z)) (O (B (z w)) (by omega));have e1:=cq (a:=(Q (B (z w)) 1 Z)) (O (B (z w)) (by omega));have e2:=cq (a:=(Q (B (z w)) 2 Z)) (O (B (z w)) (by omega));exact⟨e.k p0,e1.k ZN,e2.k p2⟩
 have D:=ae (H b.drew (λk s=>rfl));refine aI (λV=>ZW V (Q (B (z w)) 0 Z)=T (J I Z8)/\ZW V (Q (B (z w)) 1 Z)=T (U x)/\ZW V (Q (B (z w)) 2 Z)=T (Y a n c)) 9 (by kernel_rfl) ?_;clear p0 ZN p2;iterate 4
  refine aO 0 (v:=?_) rfl rfl (by kernel_rfl) (λ_ _ _ h=>h) rfl ?_ D ?_;rotate_left
  ·(rintro wz⟨s0,s1,s2⟩;go_simp)
   (try with_reducible rfl)
  (try simp only[Act.put,yh])
 iterate 2
  refine aO 5 (v:=?_) rfl rfl (by kernel_rfl) (λ_ _ _ h=>h) rfl ?_ D ?_;rotate_left
  ·(rintro wz⟨s0,s1,s2⟩;go_simp)
   (try with_reducible rfl)
  (try simp only[Act.put,yh])
 refine ai (i:=4) rfl (by kernel_rfl) λK m=>?_;go_simp;have AB:=ae (((BS b).drew).alloc ly (N #[] 9));refine m _ _ (λ_=>H _ (λk s=>AB.p k s)) ?_;clear m K
 (try simp only[Act.put,yh])
 have f:Hid (Below (B (z b)) b (ZV b (N #[] 9)).drew):=((BS b).alloc ly _).drew;have o:Hid ((ZV b (N #[] 9)).drew.ownsRow (B (z b)) 9 1 (Y (T (Q (B (z b)) 0 Z)) 0 0) 0 []):=J_ (oH b 9 1) br.drew ly;have L:Hid ((ZV b (N #[] 9)).drew.ownsRow ZZ 9 1 (Y a n c) n (bO ZT)):=J_ (J_ HO ZQ ly) f ly;refine ai (i:=7) rfl (by kernel_rfl) λK m=>?_;obtain⟨-,⟨P,h0⟩|⟨g,j_,cur,P,-⟩⟩:=id L.i;focus
  have e0:ZT=[]:=VJ.1 (ZS.i.c.k h0);cases P
  subst e0;go_simp;have Z9:=f;obtain⟨a1,c1,ea,ZR⟩:∃a1 c1,(Y a1 0 c1:ZB)=Y (T (Q (B (z b)) 0 Z)) 0 0/\Hid ((ZV b (N #[] 9)).drew.ownsRow (B (z b)) 9 1 (Y a1 0 c1) 0 (bO [])):=⟨_,_,rfl,o⟩
  rw[<-ea];clear f o L AB ea;refine m _ _ (λ_=>H _ (λk s=>Z9.p k s)) ?_;generalize (ZV b (N #[] 9)).drew=ZP at Z9 ZR ⊢
 rotate_left;focus
  cases P
  refine aU (w:=(ZV b (N #[] 9)).drew) rfl (.tmp 7) (.tmp 9) 43 rfl (B (z b)) 9 i1 (U ⟨#[]⟩) 1 16 NH ZM X ZO R rfl (by decide) (Y (T (Q (B (z b)) 0 Z)) 0 0) 0 [] (by simp[Act.eval]) o.i (Q g 0 Z) n c (bO ZT) (by simp[Act.eval]) (by rw[bO,PJ,<-ZS.i,Nat.mul_one]) (λq u h=>L.cells (g:=g) rfl q u h) (λu hu=>by rw[bO,NN] at hu;obtain⟨t,_,rfl⟩:=hu;rfl) (by unfold maxLen;omega) (by omega) f.size ?_;intro v1 ZP l C ZL;have Z9:Hid (Below (B (z b)) b ZP):=f.k (bg (a8 (B (z b)) _) C f.size (λj e=>(o.lt j e).1));rw[IT,NS] at l;have ZR:=ae l;obtain⟨a1,c1,rfl⟩:=jZ l;clear l C ZL f o L AB;refine m _ _ (λ_=>H _ (λk s=>Z9.p k s)) ?_
 all_goals
  clear m K
  (try simp only[Act.put,yh])
  have aq:=ae (H ZP (λk s=>Z9.p k s));clear D;have D:=ae aq.i;refine aO 8 (v:=?_) rfl rfl (by kernel_rfl) (λ_ _ _ h=>h) rfl ?_ D ?_;rotate_left
  ·(rintro wz⟨s0,s1,s2⟩;go_simp)
   (try with_reducible rfl)
  (try simp only[Act.put,yh])
  obtain⟨rl,r0,r1,r2,M⟩:=bR ((Z9.p _ bt).k kR);have rf0:=M 0;have rf1:=M 1;have rf2:=M 2;clear M;refine ai (i:=9) rfl (by kernel_rfl) λK m=>?_;go_simp;refine m _ _ (λh=>absurd rfl h) ?_;clear m K D
  (try simp only[Act.put])
  refine ba (by kernel_rfl) ?_ _;go_wp2_with fail;first|refine bp (v:=ZJ #[J I Z8,U x,Y a1 n c1]) (by simp[results,results62,go_sem,r0,r1,r2]) rfl ⟨_,rfl,⟨a1,c1,by rw[<-ZS.i],?_⟩,?_⟩|refine bp (v:=ZJ #[J I Z8,U x,Y a1 0 c1]) (by simp[results,results62,go_sem,r0,r1,r2]) rfl ⟨_,rfl,⟨a1,c1,by rw[<-ZS.i],?_⟩,?_⟩
  ·show World.ownsRow _ _ _ _ _ (List.length _) _
   rw[<-ZS.i];refine aE (aB (aB (aB ZR (λe=>?_) _ _) (λe=>?_) _ _) (λe=>?_) _ _) ZQ.size;all_goals
    have:=(af ZR _ e).1;omega
  ·exact(((ZQ.k (Z9.P ZQ.size)).setCell (p:=(Q (B (z w)+1) 0 Z)) (BV _) _).setCell (p:=(Q (B (z w)+1) 1 Z)) (BV _) _).setCell (p:=(Q (B (z w)+1) 2 Z)) (BV _) _
def qW (w:E)(r:jj)(a:O_)(c ZZ:Nat)(f:ZY w ZZ 9 1 (Y a (A r.R) c) (A r.R) (bO r.R))(b:A r.R<=1000):Calls Pg 62 #[ZJ #[J I r.M,U r.H,Y a (A r.R) c]] w λe h=>∃i,e=ZI i/\oJ w h r i/\Below (B (z w)) w h:=by obtain⟨j,l,g⟩:=r;simp only at f b ⊢;exact Gq w j l g a (A g) c ZZ rfl b f
def AA{lies:List zt->F_->Out zt}{t K:Nat}(j:∀b nm c,lies b nm=.inr (.inl c)->A c<=K):∀k b f g c,bT S lies t k b f g=.inr (.inl c)->A c<=K:=by
 intro k;induction k with
 |zero=>intro b f g c h;cases h
 |succ k i =>
  intro b f g c h;rw[bT] at h;split at h;{cases h}
  ·split at h;{exact i _ _ _ _ h}
   ·split at h;{exact i _ _ _ _ h}
    ·rename_i c' l;cases h
     exact j _ _ _ l
    {cases h}
def xI (S:x_):∀n b f nm c,aT S n b f nm=.inr (.inl c)->A c<=A b+n:=by
 intro n;have g:∀b f nm c (K:Nat) (tgt:Nat->Out zt),A b<=K->(∀t c,tgt t=.inr (.inl c)->A c<=K)->dB S tgt b f nm=.inr (.inl c)->A c<=K:=by
  intro b f nm c K tgt hK i h;unfold dB at h;split at h;{cases h}
  ·split at h
   ·cases h
    rw[NO];omega
   {unfold eW ee at h;split at h;{cases h};{split at h;{exact i _ _ h};{cases h}}}
 induction n with
 |zero =>intro b f nm c h;rw[aT] at h;exact g _ _ _ _ _ _ (by omega) (λt c h=>by cases h) h
 |succ n j =>
  intro b f nm c h;rw[aT] at h;refine g _ _ _ _ _ _ (by omega) (λt c h=>?_) h;rcases hr:bT S (aT S n (b++[nm])) t 201 f [] [] with⟨made1,x⟩|c1|d;{rw[hr] at h;cases h}
  ·rw[hr] at h;cases h
   refine AA (λf nm2 c2 h2=>?_) _ _ _ _ _ hr;have:=j _ _ _ _ h2;rw[cM,AI] at this;omega
  {rw[hr] at h;cases h}
structure ShAt (ZZ:Nat)(w:E)(hb:Nat)(s0 s1 md or:ZB)(L:List SM)(jh:List zt):Prop where
 lt:hb<B (z w)
 c0:ZW w (Q hb 0 Z)=T s0
 c1:ZW w (Q hb 1 Z)=T s1
 c2:ZW w (Q hb 2 Z)=T md
 c3:ZW w (Q hb 3 Z)=T or
 X:ZY w ZZ 168 6 md (A L) (L.flatMap smV)
 ror:ZY w ZZ 9 1 or (A jh) (bO (jh.map (·.e)))
 V:∀m∈L,m.done=ZH->ZY w ZZ 171 3 m.sv (A m.V) (eG m.V)
def ShAt.aa{ZZ C:Nat}{l:E}{hb:Nat}{s0 s1 j n:ZB}(h:ShAt ZZ w hb s0 s1 j n L f)(b:Below C w l)(i:B (z w)<=C):ShAt ZZ l hb s0 s1 j n L f:=by have g:hb<C:=lj h.lt i;exact⟨lj h.lt b.size,(b.O (p:=(Q hb 0 Z)) g).k h.c0,(b.O (p:=(Q hb 1 Z)) g).k h.c1,(b.O (p:=(Q hb 2 Z)) g).k h.c2,(b.O (p:=(Q hb 3 Z)) g).k h.c3,J_ h.X b i,J_ h.ror b i,λm o q=>J_ (h.V m o q) b i⟩
def Jf (h:fM L [] b)(l:b[i]?=T x):∃k m,fI L x.e=T k/\L[k]?=T m/\m.e=x.e/\m.done=ZH/\m.M=(dt x).M/\m.H=(dt x).H/\m.V=x.D:=by obtain⟨m,n,f,r,p,j,g⟩:=h.got x (I5 l);obtain⟨k,q,o⟩:=rW h.nod n f;exact⟨k,m,q,o,f,r,p,j,g⟩
def wB (h1:bP S x=0)(h2:x.D=[])(W:E)(b:Nat):DSub W b (bo S f x,Y Z 0 0,Y Z 0 0):=by
 refine⟨?_,?_⟩;{show ZY W b 124 3 (Y Z 0 0) (bP S x) (bZ (S.f1 x.tg).u (bP S x));rw[h1];exact CP _ _ _ _};{show ZY W b 74 4 (Y Z 0 0) (A x.D) (cy (lkF f x.D) (A x.D));rw[h2];exact CP _ _ _ _}
def Gr (h:PG S [] b)(r:b[i]?=T x)(q:l∈x.D)(s:l.ask=ZH){D:List au}(t:D=(b.take i).map (bo S b)):jF (dF D) l.e i=((iw b l.e:Nat):Int):=by
 obtain⟨y,m,hn,o⟩:=h.asked r q s;have f:∀(j:Nat) (Z8:zt),j<i->b[j]?=T Z8->(dF D j).e=Z8.e:=λj Z8 n hz=>by unfold dF;rw[t,CL,L8,List.getElem?_take_of_lt n,hz];rfl
 unfold jF;refine fQ o ?_ λj n=>?_;{rw[f _ y o m,hn];simp}
 ·have p:=(j5.1 m).1;have hz:b[j]?=T b[j]:=gq (by omega);rw[f j _ (by omega) hz];have g:=D0.1 h.nod j _ (by omega) p n;rw[(j5.1 m).2,hn] at g;cases hb:(b[j].e.toList == l.e.toList) with
  |false=>rfl
  |true=>exact absurd (Qv hb) g
def Dt{f g c:Nat}{b:List Lk}(h:ZY w f 171 3 (Y (T (Q g 0 Z)) (A b) c) (A b) (eG b)){k:Nat}(m:b[k]?=T l)(j:Nat)(n:j<3){u:ZB}(i:[Value.string l.e,ZF l.ask,ZF l.has][j]?=T u):ZW w (Q g (k*3+j) Z)=T u:=
 (bA h (j:=k*3+j) (u:=u) (by rw[eG,cT (λl:Lk=>[Value.string l.e,ZF l.ask,ZF l.has]) 3 (λ_=>rfl) b k j n l m];exact i)).1
def LkI (S:x_)(h:List zt)(x:zt)(j:Int)(l:F_)(p:O_)(n o i g c4:Nat)(b:E)(al:O_)(k m:Nat)(f:E):Prop:=Hid (DBox f (B (z b)+1) (U x.e) (J I 3) (J I j) (U l) (Y (T (Q i 0 Z)) g c4) (Y al k m))/\Hid (f.heap[B (z b)]?=T (N #[U x.e,J I j,U l,Y Z 0 0,Y p n o,ZF ZH] 168 (0,0)))/\Hid (ZY f (B (z b)+2) 124 3 (Y (T (Q i 0 Z)) g c4) g (bZ (S.f1 x.tg).u g))/\Hid (ZY f (B (z b)+2) 74 4 (Y al k m) k (lkV h (x.D.take k)))/\Hid (Below (B (z b)) b f)
section
variable {S:x_}{a0 a1:O_}{c0 c1:Nat}
def AE (ZZ:Nat)(w:E)(hb:Nat)(md or:ZB)(L:List SM)(f:List zt)
  (JS:ShAt ZZ w hb (Y a0 S.n0 c0) (Y a1 S.n1 c1) md or L f) (hrel:fM L [] f) (KN:PG S [] f) (Lf:A f<=40201)
  (Lb:Qx w a0 S.n0 S.f0) (Kz:Qq w a1 S.n1 S.f1) (KP:SpcOk S) (Kd:∀i,i<S.n1->aP (S.f1 i)) :
  Calls Pg 63 #[.pointer (T (Q hb 0 Z))] w λe w'=>∃a c R,e=ZI (ZJ #[Y a (A R) c])/\DRow w' (B (z w)) (Y a (A R) c) R/\R.map (·.1)=bk S f/\Below (B (z w)) w w':=by
 have KT:=ae JS;have Ll:=ae hrel;have La:=ae KN;have V0:=ae Lb;have V1:=ae Kz;have JJ:=ae KP;have LA:=ae Kd;have Ly:A L<=40201:=by have:=hrel.len;simp only[IS,QF] at this;omega
 obtain⟨am,cm,rfl⟩:=bM JS.X;obtain⟨ao,co,rfl⟩:=bM JS.ror;obtain⟨ZQ,hN⟩:∃ZQ,ZQ=A L:=⟨_,rfl⟩
 obtain⟨n,hn⟩:∃n,n=A f:=⟨_,rfl⟩
 have ZL:=ae hN;have HN:=ae hn;rw[<-hN,<-hn] at KT;rw[<-hN] at Ly;rw[<-hn] at Lf;clear JS hrel KN Lb Kz KP Kd hN hn;obtain⟨il,Lp,Lj,Lg,Li⟩:=NP lH;obtain⟨LN,Lt,Lm,Lh,Ln⟩:=NP gC;obtain⟨W0,hW⟩:∃W:E,ZV (ZV w (N #[Y Z 0 0] 25)) (N #[Y Z 0 0] 25)=W:=⟨_,rfl⟩
 obtain⟨A0,kR,kA,-⟩:=nb2 hW;have HW:=ae hW;clear hW;go_enter func63,ntmps63;go_wp2_with fail;rw[HW.i];clear HW;go_loopw [4] (λv wr=>∃(i:Nat) (P:O_) (c5:Nat) (R:List DR),i<=n/\v=J I i/\(A R)=i/\Hid (R.map (·.1)=(f.take i).map (bo S f))/\Hid (DRow wr (B (z w)+2) (Y P i c5) R)/\Hid (wr.heap[B (z w)+1]?=T (N #[Y P i c5] 25 (0,0)))/\Hid (wr.heap[B (z w)]?=T (N #[Y Z 0 0] 25 (0,0)))/\Hid (Below (B (z w)) w wr)) (λv _=>n - (intOf v).toNat);case atStart=>exact⟨0,Z,0,[],by omega,rfl,rfl,rfl,jK _ _,kA,kR,A0⟩
 case round =>
  clear kA kR A0;obtain⟨i,P,c5,R,hi,rfl,ur,Kn,D4,k4,ex,B4⟩:=hrel;have O:=ae (KT.aa B4 ly);have hw4:B (z w)+2<=B (z wr):=ah k4.i;have h3:=O.c3;have KH:=O.lt;by_cases Lq:i<n
  ·obtain⟨x,hx⟩:∃x,f[i]?=T x:=⟨_,gq (by rw[<-HN.i];exact Lq)⟩
   obtain⟨j,m,hf,hm,e1,e2,e3,e4,e5⟩:=Jf Ll hx;have Fm:=O.ror;have M:=O.X;rw[<-HN.i] at Fm;rw[<-ZL.i] at M;obtain⟨go,co',e⟩:=dr Fm (by omega);simp only[IN,TX] at e;obtain⟨rfl,rfl⟩:=e;have hjN:j<ZQ:=by rw[ZL.i];exact(j5.1 hm).1
   obtain⟨y,cm',e⟩:=dr M (by omega);simp only[IN,TX] at e;obtain⟨rfl,rfl⟩:=e;have oc:ZW wr (Q go i Z)=T (U x.e):=(bA Fm (by rw[bO,L8,L8,hx];rfl)).1;have LH:=(cV Fm).2;have mv:=(cV M).2;have h2:=O.c2;have Bk:=O.V m (I5 hm) e2;obtain⟨ZM,ZT,JP⟩:=bM Bk;obtain⟨Z9,J4⟩:∃Z9,Z9=(dt x).M:=⟨_,rfl⟩
   obtain⟨o,la⟩:∃o,o=(dt x).H:=⟨_,rfl⟩
   obtain⟨r,JI⟩:∃r,r=A x.D:=⟨_,rfl⟩
   rw[e5] at JP Bk;rw[JP,<-JI] at Bk;have q0:ZW wr (Q y (j*6) Z)=T (U x.e):=by have:=cJ (by rw[<-ZL.i];exact M) hm 0 (by omega) rfl;rw[e1] at this;exact this
   have q1:ZW wr (Q y (j*6+1) Z)=T (J I Z9):=by have:=cJ (by rw[<-ZL.i];exact M) hm 1 (by omega) rfl;rw[e3,<-J4] at this;exact this
   have q2:ZW wr (Q y (j*6+2) Z)=T (U o):=by have:=cJ (by rw[<-ZL.i];exact M) hm 2 (by omega) rfl;rw[e4,<-la] at this;exact this
   have q3:ZW wr (Q y (j*6+3) Z)=T (Y Z 0 0):=cJ (by rw[<-ZL.i];exact M) hm 3 (by omega) rfl;have q4:ZW wr (Q y (j*6+4) Z)=T (Y ZM r ZT):=by have:=cJ (by rw[<-ZL.i];exact M) hm 4 (by omega) rfl;rw[JP,<-JI] at this;exact this
   have q5:ZW wr (Q y (j*6+5) Z)=T (ZF ZH):=by have:=cJ (by rw[<-ZL.i];exact M) hm 5 (by omega) rfl;rw[e2] at this;exact this
   have C:Hid (∀V,Below (B (z wr)) wr V->ZW V (Q hb 2 Z)=T (Y (T (Q y 0 Z)) ZQ cm)/\ZW V (Q hb 3 Z)=T (Y (T (Q go 0 Z)) n co)/\ZW V (Q go i Z)=T (U x.e)/\ZW V (Q y (j*6) Z)=T (U x.e)/\ZW V (Q y (j*6+1) Z)=T (J I Z9)/\ZW V (Q y (j*6+2) Z)=T (U o)/\ZW V (Q y (j*6+3) Z)=T (Y Z 0 0)/\ZW V (Q y (j*6+4) Z)=T (Y ZM r ZT)/\ZW V (Q y (j*6+5) Z)=T (ZF ZH)):=λV g=>⟨(g.O (p:=(Q hb 2 Z)) KH).k h2,(g.O (p:=(Q hb 3 Z)) KH).k h3,(g.O (p:=(Q go i Z)) LH).k oc,(g.O (p:=(Q y _ Z)) mv).k q0,(g.O (p:=(Q y _ Z)) mv).k q1,(g.O (p:=(Q y _ Z)) mv).k q2,(g.O (p:=(Q y _ Z)) mv).k q3,(g.O (p:=(Q y _ Z)) mv).k q4,(g.O (p:=(Q y _ Z)) mv).k q5⟩
   have CT:Hid (∀V,Below (B (z wr)) wr V->Calls Pg 99 #[.pointer (T (Q hb 0 Z)),U x.e] V λe w'=>e=ZI (J I (j:Int))/\w'=V):=λV g=>by
    have h:=O.aa g ly;refine(vX V x.e ZZ h.c2 h.X (by rw[<-ZL.i];omega)).P λe w' ⟨he,hw⟩=>⟨?_,hw⟩
    rw[he,hf];rfl
   have HX:=ae hx;have Lr:=ae J4;have Lc:=ae la;have GS:=ae JI;have J8:=ae Bk;have hj0:(0:Int)<=(j:Int):=by omega
   have hjI:(j:Int)<ZQ:=by omega
   have hi0:(0:Int)<=(i:Int):=by omega
   have hiI:(i:Int)<n:=by omega
   clear Fm M Bk JP hx hf hm e1 e2 e3 e4 e5 J4 la JI;go_upto_region 5 with fail;go_cut [5] (λs wx=>s=.pointer (T (Q (B (z wr)) 0 Z))/\wx=(ZV wr (N #[U x.e,J I Z9,U o,Y Z 0 0,Y ZM r ZT,ZF ZH] 168)).drew);case first =>
    clear h2 h3 oc q0 q1 q2 q3 q4 q5
    go_region_held3 (λV=>ZW V (Q hb 2 Z)=T (Y (T (Q y 0 Z)) ZQ cm)/\ZW V (Q hb 3 Z)=T (Y (T (Q go 0 Z)) n co)/\ZW V (Q go i Z)=T (U x.e)/\ZW V (Q y (j*6) Z)=T (U x.e)/\ZW V (Q y (j*6+1) Z)=T (J I Z9)/\ZW V (Q y (j*6+2) Z)=T (U o)/\ZW V (Q y (j*6+3) Z)=T (Y Z 0 0)/\ZW V (Q y (j*6+4) Z)=T (Y ZM r ZT)/\ZW V (Q y (j*6+5) Z)=T (ZF ZH)) (first|exact C _ br|exact C _ br.drew|exact C _ (br.drew.alloc ly _)|exact C _ (br.alloc ly _).drew|exact C _ ((((((((BS wr).drew.alloc ly _).setCell ly _).setCell ly _).setCell ly _).setCell ly _).setCell ly _).setCell ly _)) (first
     |(go_at_call 99;refine(CT _ (by first|exact br.drew|exact a8 _ _|exact br.drew.alloc ly _)).P ?_;rintro e w5⟨rfl,rfl⟩))
    all_goals
     go_wp2_with fail;go_meet;exact⟨rfl,rfl⟩
   case rest =>
   obtain⟨rfl,rfl⟩:=hcut;have B5:=ae ((BS wr).alloc ly (N #[U x.e,J I Z9,U o,Y Z 0 0,Y ZM r ZT,ZF ZH] 168)).drew;have m5:Hid ((ZV wr (N #[U x.e,J I Z9,U o,Y Z 0 0,Y ZM r ZT,ZF ZH] 168)).drew.heap[B (z wr)]?=T (N #[U x.e,J I Z9,U o,Y Z 0 0,Y ZM r ZT,ZF ZH] 168 (0,0))):=gM wr _;have JR:(ZV wr (N #[U x.e,J I Z9,U o,Y Z 0 0,Y ZM r ZT,ZF ZH] 168)).drew.heap.size=B (z wr)+1:=by simp[World.drew]
   clear h2 h3 oc q0 q1 q2 q3 q4 q5 C CT;generalize World.drew (World.alloc wr _)=W5 at B5 m5 JR ⊢;have p0:ZW W5 (Q (B (z wr)) 0 Z)=T (U x.e):=by simp[World.cell?,m5.i]
   obtain⟨W6,Id⟩:∃W:E,ZV W5 (N #[U x.e,J I 0,J I 0,U ⟨#[]⟩,Y Z 0 0,Y Z 0 0] 58)=W:=⟨_,rfl⟩
   obtain⟨A6,-,-⟩:=nb1 Id;have bt:=ae Id;clear Id;have B6:=ae (B5.k (A6.P B5.size));have X6:Hid (DBox W6 (B (z wr)+1) (U x.e) (J I 0) (J I 0) (U ⟨#[]⟩) (Y Z 0 0) (Y Z 0 0)):=by
    cases bt.i
    have h:=jG W5 (U x.e) (J I 0) (J I 0) (U ⟨#[]⟩) (Y Z 0 0) (Y Z 0 0) 58;rw[JR] at h;exact h
   have m6:Hid (W6.heap[B (z wr)]?=T (N #[U x.e,J I Z9,U o,Y Z 0 0,Y ZM r ZT,ZF ZH] 168 (0,0))):=by cases bt.i;exact(A6.p _ (by omega)).k m5
   have LG:B (z W6)=B (z wr)+2:=by cases bt.i;simp[JR]
   go_upto_region 7 with fail;rw[bt.i];clear bt;clear p0 B5 m5 A6 JR;have Hx:=ae (O.aa B6 ly);have J5:=ae (B4.k (B6.P (by omega)));have C:Hid (∀V,Below (B (z W6)) W6 V->ZW V (Q hb 0 Z)=T (Y a0 S.n0 c0)/\ZW V (Q hb 1 Z)=T (Y a1 S.n1 c1)/\ZW V (Q (B (z wr)) 0 Z)=T (U x.e)):=λV g=>⟨(g.O (p:=(Q hb 0 Z)) Hx.lt).k Hx.c0,(g.O (p:=(Q hb 1 Z)) Hx.lt).k Hx.c1,(g.O (p:=(Q (B (z wr)) 0 Z)) (by show (B (z wr))<_;omega)).k (by simp[World.cell?,m6.i])⟩
   obtain⟨ZO,hT⟩:∃ZO,ZO=eh (atI (nm1 S.f1) S.n1 x.e):=⟨_,rfl⟩
   have CT:Hid (∀V,Below (B (z W6)) W6 V->Calls Pg 34 #[ZJ #[Y a0 S.n0 c0,Y a1 S.n1 c1],U x.e] V λe w'=>e=ZI (J I ZO)/\Below (B (z V)) V w'):=λV g=>by rw[hT];exact iQ a0 S.n0 c0 a1 S.n1 c1 S.f1 x.e V (by have:=JJ.bb;omega) (V1.aa (J5.k (g.P J5.size)) ly)
   have HT:=ae hT;clear hT
   go_region_held3 (λV=>ZW V (Q hb 0 Z)=T (Y a0 S.n0 c0)/\ZW V (Q hb 1 Z)=T (Y a1 S.n1 c1)/\ZW V (Q (B (z wr)) 0 Z)=T (U x.e)) (first|exact C _ br|exact C _ br.drew|exact C _ D7) (first
    |(go_at_call 34;refine(CT _ (by first|exact br.drew|exact a8 _ _)).P ?_;rintro e w7⟨rfl,qr⟩;have D7:Hid (Below (B (z W6)) W6 w7):=⟨qr.os,qr.tape,qr.output,qr.size,qr.p⟩;clear qr))
   have B7:=ae (B6.k (D7.P B6.size));have X7:=ae (X6.aa D7 X6.lt);have m7:=ae ((D7.p _ (ah m6)).k m6);have Kb:B (z wr)+2<=B (z w7):=by have:=D7.size;omega
   have k7:=ae ((B7.p _ (ah k4)).k k4);have KZ:=ae ((B7.p _ (ah ex)).k ex);have ld:=ae (O.aa B7 ly);have JW:=ae (B4.k (B7.P (by omega)));have JY:=I5 HX.i;have KU:=ae (La.W x JY);clear D7 C CT X6 m6 Hx J5 B6 LG JY;go_upto_if 46 with fail;go_cut [8,9] (λ_ _ wx=>∃(aa al:O_) (na nl ca ZR:Nat),Hid (DBox wx (B (z wr)+1) (U x.e) (J I x.m) (J I x.M) (U x.H) (Y aa na ca) (Y al nl ZR))/\Hid (DSub wx (B (z wr)) (bo S f x,Y aa na ca,Y al nl ZR))/\Hid (Below (B (z wr)) wr wx));case first =>
    rcases KU.m with⟨hk,ro,hlk,si,Ky,Kf⟩|⟨hk,ro,Kf,hlk,J6,DE⟩|⟨hk,J6,DE⟩
    rotate_left 2
    ·have HK:=ae hk;have Kk:dt x=⟨x.M,x.H,[]⟩:=by unfold dt;rw[eI (by omega)]
     have JK:Hid (o=x.H/\Z9=x.M):=⟨by rw[Lc.i,Kk],by rw[Lr.i,Kk]⟩
     have hns2:r<=200:=by rw[GS.i];exact KU.D
     have Kj:=(bu DE).1;have Kh:ZO=(x.tg:Int):=by rw[HT.i,DE];rfl
     have Kv:bP S x=(S.f1 x.tg).h:=by unfold bP;rw[eT hk]
     obtain⟨X,JQ⟩:∃X,X=(S.f1 x.tg).h:=⟨_,rfl⟩
     have Lx:Hid (bP S x=X):=Kv.k JQ.c;have hn4m:X<=1048576:=by rw[JQ];exact LA x.tg Kj
     have hn41:1<=X:=by obtain⟨_,hv,_⟩:=bJ (JJ.u x.tg Kj);omega
     obtain⟨tb,tf,LQ,la⟩:=V1.resolve_left (by omega);subst Kh LQ;obtain⟨-,ia,ic,sm,Kw⟩:=la.2 x.tg Kj;have J7:=la.1;obtain⟨ib,io,rfl,Ko⟩:=Kw.resolve_left (by omega);rw[<-JQ] at sm Ko;have LJ:=ae Ko;have Ks:=ae sm;clear hk Kk Kv JQ J6 DE la Kw Ko sm;have q1:ZW w7 (Q (B (z wr)) 1 Z)=T (J I Z9):=by simp[World.cell?,m7.i]
     have q2:ZW w7 (Q (B (z wr)) 2 Z)=T (U o):=by simp[World.cell?,m7.i]
     obtain⟨d1,KO⟩:=X7.c1;obtain⟨d2,LM⟩:=X7.c2;obtain⟨d3,Kx⟩:=X7.c3;have KV:=X7.lt;have htg0:(0:Int)<=(x.tg:Int):=by omega
     have X9:=ae (((X7.set1 (J I 3)).set2 (J I Z9)).set3 (U o));have m9:Hid ((ZU (ZU (ZU w7 (Q (B (z wr)+1) 1 Z) (J I 3)) (Q (B (z wr)+1) 2 Z) (J I Z9)) (Q (B (z wr)+1) 3 Z) (U o)).heap[B (z wr)]?=T (N #[U x.e,J I Z9,U o,Y Z 0 0,Y ZM r ZT,ZF ZH] 168 (0,0))):=(qh _ _ _ _ (show (B (z wr))≠B (z wr)+1 by omega)).k ((qh _ _ _ _ (show (B (z wr))≠B (z wr)+1 by omega)).k ((qh _ _ _ _ (show (B (z wr))≠B (z wr)+1 by omega)).k m7.i));have B9:=ae (((B7.setCell (p:=(Q (B (z wr)+1) 1 Z)) (BV _) (J I 3)).setCell (p:=(Q (B (z wr)+1) 2 Z)) (BV _) (J I Z9)).setCell (p:=(Q (B (z wr)+1) 3 Z)) (BV _) (U o));have KQ:B (z wr)+2<=B (z (ZU (ZU (ZU w7 (Q (B (z wr)+1) 1 Z) (J I 3)) (Q (B (z wr)+1) 2 Z) (J I Z9)) (Q (B (z wr)+1) 3 Z) (U o))):=by simpa using Kb
     go_upto_region 12 with fail;generalize World.setCell (World.setCell (World.setCell w7 _ _) _ _) _ _=W9 at X9 m9 B9 KQ ⊢;clear d1 KO d2 LM d3 Kx q1 q2 KV X7 m7 B7 k7 KZ ld JW Kb;have JV:=ae (B4.k (B9.P (by omega)));have Kl:=ae (O.aa B9 ly);have LP:=Kl.c1;have Lo:=Kl.lt;have tc:=(JV.O (p:=(Q tb (tf+x.tg*2+1) Z)) J7).k Ks;have Ld:tb<B (z W9):=lj J7 JV.size;have htgI:(x.tg:Int)<(S.n1:Int):=by omega
     go_wp2_with fail;refine(je ib io X ic (S.f1 x.tg).u W9 (by omega) (LJ.aa JV ly)).P ?_;rintro e Ku⟨g4,c4,rfl,Ke,th⟩;have JU:=ae (X9.aa th X9.lt);obtain⟨d4,LI⟩:=JU.c4;have Ki:=ae (JU.set4 (Y (T (Q g4 0 Z)) X c4));have Km:Hid ((ZU Ku (Q (B (z wr)+1) 4 Z) (Y (T (Q g4 0 Z)) X c4)).heap[B (z wr)]?=T (N #[U x.e,J I Z9,U o,Y Z 0 0,Y ZM r ZT,ZF ZH] 168 (0,0))):=(qh _ _ _ _ (show (B (z wr))≠B (z wr)+1 by omega)).k ((th.p _ (ah m9)).k m9);have Kp:=ae (aH (R:=B (z wr)+1) (j:=4) (aE Ke (show (B (z wr))+2<=B (z W9) by omega)) (by omega) (Y (T (Q g4 0 Z)) X c4));have JX:=ae ((B9.k (th.P B9.size)).setCell (p:=(Q (B (z wr)+1) 4 Z)) (BV _) (Y (T (Q g4 0 Z)) X c4));have Kr:=JU.lt;clear Ke th tc LP;go_wp2;generalize World.setCell Ku _ _=W11 at Ki Km Kp JX ⊢;clear d4 LI JU Kr X9 m9 B9 JV Kl Lo Ld KQ;obtain⟨t,LB⟩:∃t,t=wr:=⟨_,rfl⟩
     subst LB;go_loopw [8] (λv wq=>∃(k:Nat) (al:O_) (ZR:Nat),k<=r/\v=J I k/\LkI S f x Z9 o ZM r ZT g4 X c4 t al k ZR wq) (λv _=>r - (intOf v).toNat);case atStart=>exact⟨0,Z,0,by omega,rfl,Ki,Km,Kp,CP _ _ _ _,JX⟩
     case round =>
      clear Ki Km Kp JX;obtain⟨k,al,ZR,hk,rfl,JO,Ka,Kg,J0,At⟩:=hrel;have m4:ZW wr (Q (B (z t)) 4 Z)=T (Y ZM r ZT):=by simp[World.cell?,Ka.i]
      have ml:=ah Ka.i;have hz12:B (z t)+2<=B (z wr):=JO.lt;by_cases hlk:k<r
      ·obtain⟨l,hl⟩:∃l,x.D[k]?=T l:=⟨_,gq (by rw[<-GS.i];exact hlk)⟩
       obtain⟨ZS,sc',e⟩:=dr J8 (by omega);simp only[IN,TX] at e;obtain⟨rfl,rfl⟩:=e;have Kt:=(cV J8).2;have sn:∀j,j<3->∀u,[Value.string l.e,ZF l.ask,ZF l.has][j]?=T u->ZW wr (Q ZS (k*3+j) Z)=T u:=λj hj u hu=>(At.O (p:=(Q ZS (k*3+j) Z)) Kt).k (Dt (by have h:=J8.i;rw[GS.i] at h;exact h) hl j hj hu);have f0:=sn 0 (by omega) _ rfl;have f1:=sn 1 (by omega) _ rfl;have f2:=sn 2 (by omega) _ rfl;rw[show k*3+0=k*3 by omega] at f0;have JG:ZS<B (z wr):=lj Kt At.size;have HL:=ae hl;have C:Hid (∀V,Below (B (z wr)) wr V->ZW V (Q (B (z t)) 4 Z)=T (Y (T (Q ZS 0 Z)) r ZT)/\ZW V (Q ZS (k*3) Z)=T (U l.e)/\ZW V (Q ZS (k*3+1) Z)=T (ZF l.ask)/\ZW V (Q ZS (k*3+2) Z)=T (ZF l.has)):=λV g=>⟨(g.O (p:=(Q (B (z t)) 4 Z)) ml).k m4,(g.O (p:=(Q ZS _ Z)) JG).k f0,(g.O (p:=(Q ZS _ Z)) JG).k f1,(g.O (p:=(Q ZS _ Z)) JG).k f2⟩
       have hk0:(0:Int)<=(k:Int):=by omega
       have hkI:(k:Int)<r:=by omega
       clear sn hl;go_upto_region 16 with fail;go_cut [9] (λs wx=>s=.pointer (T (Q (B (z wr)) 0 Z))/\wx=(ZV wr (N #[U l.e,ZF l.ask,ZF l.has,J I 0] 74)).drew);case first =>
        clear m4 f0 f1 f2;go_region_held3 (λV=>ZW V (Q (B (z t)) 4 Z)=T (Y (T (Q ZS 0 Z)) r ZT)/\ZW V (Q ZS (k*3) Z)=T (U l.e)/\ZW V (Q ZS (k*3+1) Z)=T (ZF l.ask)/\ZW V (Q ZS (k*3+2) Z)=T (ZF l.has)) (first|exact C _ br|exact C _ br.drew|exact C _ (br.drew.alloc ly _)|exact C _ (br.alloc ly _).drew|exact C _ ((((((BS wr).drew.alloc ly _).setCell ly _).setCell ly _).setCell ly _).setCell ly _)) (fail);all_goals
         go_wp2_with fail;go_meet;exact⟨rfl,rfl⟩
       case rest =>
       obtain⟨rfl,rfl⟩:=hcut;have ph:=ae ((BS wr).alloc ly (N #[U l.e,ZF l.ask,ZF l.has,J I 0] 74)).drew;have ZN:Hid ((ZV wr (N #[U l.e,ZF l.ask,ZF l.has,J I 0] 74)).drew.heap[B (z wr)]?=T (N #[U l.e,ZF l.ask,ZF l.has,J I 0] 74 (0,0))):=gM wr _;clear m4 f0 f1 f2 C;generalize World.drew (World.alloc wr _)=aq at ph ZN ⊢;have JT:=ae (JO.aa ph JO.lt);have JL:=ae ((ph.p _ ml).k Ka);have JZ:=ae (J_ Kg ph ly);have J9:=ae (J_ J0 ph ly);have n8:=ae (At.k (ph.P At.size));have k1:ZW aq (Q (B (z wr)) 1 Z)=T (ZF l.ask):=by simp[World.cell?,ZN.i]
       go_upto_if 94 with fail;clear k1;go_cut [] (λwx=>∃q:Int,Hid (du (lkD f l)=[U l.e,ZF l.ask,ZF l.has,J I q])/\Hid (wx.heap[B (z wr)]?=T (N #[U l.e,ZF l.ask,ZF l.has,J I q] 74 (0,0)))/\LkI S f x Z9 o (T (Q ZS 0 Z)) r ZT g4 X c4 t al k ZR wx);case first =>
        cases hask:l.ask with
        |false =>go_wp2;go_meet;exact⟨0,by show _=_;simp[du,lkD,hask],ZN,JT,JL,JZ,J9,n8⟩
        |true =>
         obtain⟨q,hq⟩:∃q:Int,q=((iw f l.e:Nat):Int):=⟨_,rfl⟩
         have KM:=ae ((n8.p _ (ah k4)).k k4);have ac:ZW aq (Q (B (z w)+1) 0 Z)=T (Y P i c5):=by simp[World.cell?,KM.i]
         have acl:=ah KM.i;have LL:ZW aq (Q (B (z wr)) 0 Z)=T (U l.e):=by simp[World.cell?,ZN.i]
         have CA:Hid (Calls Pg 58 #[ZJ #[Y P i c5],U l.e] aq λe w'=>e=ZI (J I q)/\Below (B (z aq)) aq w'):=by
          have hd:SlDeed aq P i (dF (R.map (·.1))):=by have h:=D4.aa n8.i ly;rw[<-ur] at h ⊢;exact h.bd
          have h:=DU P i c5 (dF (R.map (·.1))) l.e aq (by omega) hd;rw[Gr La.i HX.i (I5 HL.i) hask Kn.i,<-hq] at h;exact h
         have HQ:=ae hq;clear hq;go_wp2_with fail;refine CA.P ?_;rintro e JN⟨rfl,ZP⟩;have DQ:=(ZP.p _ (ah ZN)).k ZN;have q3:ZW JN (Q (B (z wr)) 3 Z)=T (J I 0):=by simp[World.cell?,DQ]
         have qf3:ZX JN (Q (B (z wr)) 3 Z)=ZA:=by simp[World.frozen?,DQ]
         have ql3:=ah DQ;have K:Hid ((ZU JN (Q (B (z wr)) 3 Z) (J I q)).heap[B (z wr)]?=T (N #[U l.e,ZF l.ask,ZF l.has,J I q] 74 (0,0))):=aw DQ _;have fd:=ae ((JT.aa ZP JT.lt).far (p:=(Q (B (z wr)) 3 Z)) (by show (B (z wr))≠B (z t)+1;omega) (J I q));have Fk:Hid ((ZU JN (Q (B (z wr)) 3 Z) (J I q)).heap[B (z t)]?=T (N #[U x.e,J I Z9,U o,Y Z 0 0,Y (T (Q ZS 0 Z)) r ZT,ZF ZH] 168 (0,0))):=(qh _ _ _ _ (show (B (z t))≠B (z wr) by omega)).k ((ZP.p _ (ah JL)).k JL);have JH:=ae (aB (J_ JZ ZP ly) (b:=B (z wr)) (λe=>by have:=(Kg.lt _ e).2;omega) 3 (J I q));have JM:=ae (aB (J_ J9 ZP ly) (b:=B (z wr)) (λe=>by have:=(J0.lt _ e).2;omega) 3 (J I q));have Fd:=ae ((n8.k (ZP.P n8.size)).setCell (p:=(Q (B (z wr)) 3 Z)) (by show (B (z t))<=B (z wr);omega) (J I q));clear DQ ZP ac LL;go_wp2;go_meet;exact⟨q,by show _=_;simp[du,lkD,hask,HQ.i],K,fd,Fk,JH,JM,Fd⟩
       case rest =>
       obtain⟨q,Lv,K,fd,Fk,JH,JM,Fd⟩:=hcut;clear ZN JT JL JZ J9 n8;generalize wc=H at K fd Fk JH JM Fd ⊢;have l0:ZW H (Q (B (z wr)) 0 Z)=T (U l.e):=by simp[World.cell?,K.i]
       have l1:ZW H (Q (B (z wr)) 1 Z)=T (ZF l.ask):=by simp[World.cell?,K.i]
       have l2:ZW H (Q (B (z wr)) 2 Z)=T (ZF l.has):=by simp[World.cell?,K.i]
       have l3:ZW H (Q (B (z wr)) 3 Z)=T (J I q):=by simp[World.cell?,K.i]
       have ll:=ah K.i;obtain⟨e5,ef5⟩:=fd.c5;have AL:=ae ((BS H).alloc ly (N #[U l.e,ZF l.ask,ZF l.has,J I q] 74));have XA:=ae (fd.aa AL fd.lt);have mA:=ae ((AL.p _ (ah Fk)).k Fk);have OA:=ae (J_ JH AL ly);have PA:=ae (J_ JM AL ly);have BA:=ae (Fd.k (AL.P Fd.size));have Lz:B (z (ZV H (N #[U l.e,ZF l.ask,ZF l.has,J I q] 74)))=B (z H)+1:=by simp
       have hzW:B (z t)+2<=B (z H):=fd.lt;go_wp2_with (at_builtin;refine DN _ rfl (.tmp 101) (.tmp 103) 56 rfl (B (z t)+2) 74 il (ZJ #[U ⟨#[]⟩,ZF ZA,ZF ZA,J I 0]) 4 32 SU Lp Lj Lg Li rfl (by decide) (Y al k ZR) k (lkV f (x.D.take k)) (by simp[Act.eval]) PA.i (Q (B (z H)) 0 Z) 1 1 [U l.e,ZF l.ask,ZF l.has,J I q] (by simp[Act.eval]) rfl (rU H _ _ _ _ _) (by simp[Value.oneCell']) (by unfold maxLen;omega) (by omega) (by omega) ?_;intro v' wz G D _;obtain⟨az,cz,rfl⟩:=bM G;rw[<-Lv.i,<-pN f x.D HL.i] at G;have PZ:=ae G;have GZ:=ae D;have XZ:=ae (XA.grown PA D (eL _));obtain⟨z5,zf5⟩:=XZ.c5;have zl:=XZ.lt;clear G D);have XY:=ae (XZ.set5 (Y az (k+1) cz));have mY:Hid ((ZU wz (Q (B (z t)+1) 5 Z) (Y az (k+1) cz)).heap[B (z t)]?=T (N #[U x.e,J I Z9,U o,Y Z 0 0,Y (T (Q ZS 0 Z)) r ZT,ZF ZH] 168 (0,0))):=(qh _ _ _ _ (show (B (z t))≠B (z t)+1 by omega)).k ((GZ.p _ (ah mA) (λe=>by have:=(PA.lt _ e.c).1;omega)).k mA);have OY:=ae (aH (R:=B (z t)+1) (j:=5) (og OA PA GZ (by decide)) (by omega) (Y az (k+1) cz));have PY:=ae (aH (R:=B (z t)+1) (j:=5) PZ (by omega) (Y az (k+1) cz));have BY:=ae ((bg BA GZ (by omega) (λj e=>by have:=(PA.lt j e).1;omega)).setCell (p:=(Q (B (z t)+1) 5 Z)) (BV _) (Y az (k+1) cz));exact⟨⟨k+1,az,cz,by omega,by go_num,XY,mY,OY,PY,BY⟩,by simp[intOf];omega⟩
      ·have e:k=r:=by omega
       subst e;have XT:Hid (DBox wr (B (z t)+1) (U x.e) (J I x.m) (J I x.M) (U x.H) (Y (T (Q g4 0 Z)) X c4) (Y al k ZR)):=by show DBox _ _ _ _ _ _ _ _;rw[HK.i,<-JK.1,<-JK.2];exact JO
       have ST:Hid (DSub wr (B (z t)) (bo S f x,Y (T (Q g4 0 Z)) X c4,Y al k ZR)):=by
        refine⟨?_,?_⟩;{show ZY World wr (B (z t)) 124 3 (Y (T (Q g4 0 Z)) X c4) (bP S x) (bZ (S.f1 x.tg).u (bP S x));rw[Lx.i];exact aE Kg (by omega)};{show ZY World wr (B (z t)) 74 4 (Y al k ZR) (A x.D) (cy (lkF f x.D) (A x.D));rw[yC,<-GS.i];have h:=J0.i;rw[NV (by rw[<-GS.i];exact p7 _)] at h;exact aE h (by omega)}
       go_wp2;go_meet;exact⟨_,_,_,_,_,_,XT,ST,At⟩
    all_goals
     obtain⟨Z8,hz⟩:∃Z8,Z8=eh (atI (nm0 S.f0) S.n0 x.e):=⟨_,rfl⟩
     have HK:=ae hk;have KI:=ae ro;have LC:=ae Kf;have C:Hid (∀V,Below (B (z w7)) w7 V->ZW V (Q hb 0 Z)=T (Y a0 S.n0 c0)/\ZW V (Q hb 1 Z)=T (Y a1 S.n1 c1)/\ZW V (Q (B (z wr)) 0 Z)=T (U x.e)):=λV g=>⟨(g.O (p:=(Q hb 0 Z)) ld.lt).k ld.c0,(g.O (p:=(Q hb 1 Z)) ld.lt).k ld.c1,(g.O (p:=(Q (B (z wr)) 0 Z)) (by show (B (z wr))<_;omega)).k (by simp[World.cell?,m7.i])⟩
     have CT:Hid (∀V,Below (B (z w7)) w7 V->Calls Pg 33 #[ZJ #[Y a0 S.n0 c0,Y a1 S.n1 c1],U x.e] V λe w'=>e=ZI (J I Z8)/\Below (B (z V)) V w'):=λV g=>by rw[hz];exact iP a0 S.n0 c0 a1 S.n1 c1 S.f0 x.e V (by have:=JJ.bb;omega) (V0.aa (JW.k (g.P JW.size)) ly)
     have HZ:=ae hz;have Kh:ZO=-1:=by rw[HT.i,show atI (nm1 S.f1) S.n1 x.e=Z by first|exact DE|exact oZ JJ.i Ky];rfl
     subst Kh;clear hk ro Kf hz;go_wp2_with fail
     go_region_held3 (λV=>ZW V (Q hb 0 Z)=T (Y a0 S.n0 c0)/\ZW V (Q hb 1 Z)=T (Y a1 S.n1 c1)/\ZW V (Q (B (z wr)) 0 Z)=T (U x.e)) (first|exact C _ br|exact C _ br.drew|exact C _ D8) (first
      |(go_at_call 33;refine(CT _ (by first|exact br.drew|exact a8 _ _)).P ?_;rintro e w8⟨rfl,n9⟩;have D8:Hid (Below (B (z w7)) w7 w8):=⟨n9.os,n9.tape,n9.output,n9.size,n9.p⟩;clear n9))
     have X8:=ae (X7.aa D8 X7.lt);have B8:=ae (B7.k (D8.P B7.size));obtain⟨d1,KO⟩:=X8.c1;have KV:=X8.lt
    ·obtain rfl:Z8=(si:Int):=by rw[HZ.i,Ky];rfl
     have JK:Hid (o=x.H):=by show o=x.H;rw[Lc.i];unfold dt;rw[eI (by rw[HK.i];decide)]
     have hsi0:(0:Int)<=(si:Int):=by omega
     obtain⟨d3,Kx⟩:=X8.c3;have m8:=(D8.p _ (ah m7)).k m7;have q2:ZW w8 (Q (B (z wr)) 2 Z)=T (U o):=by simp[World.cell?,m8]
     have BT:=ae ((B8.setCell (p:=(Q (B (z wr)+1) 1 Z)) (BV _) (J I 1)).setCell (p:=(Q (B (z wr)+1) 3 Z)) (BV _) (U o));clear m8;go_wp2;go_meet;exact⟨Z,Z,0,0,0,0,(by show DBox _ _ _ _ _ _ _ _;rw[HK.i,KI.i,<-JK.i];exact(X8.set1 _).set3 _),wB (by unfold bP;rw[eI (by rw[HK.i];decide)]) hlk _ _,BT⟩
    ·obtain rfl:Z8=-1:=by rw[HZ.i,J6];rfl
     have BT:=ae (B8.setCell (p:=(Q (B (z wr)+1) 1 Z)) (BV _) (J I 2));go_wp2;go_meet;exact⟨Z,Z,0,0,0,0,(by show DBox _ _ _ _ _ _ _ _;rw[HK.i,KI.i,LC.i];exact X8.set1 _),wB (by unfold bP;rw[eI (by rw[HK.i];decide)]) hlk _ _,BT⟩
   case rest =>
   obtain⟨aa,al,na,nl,ca,ZR,XT,ST,BT⟩:=hcut;have kT:=ae ((BT.p _ (ah k4)).k k4);have Kc:=ae ((BT.p _ (ah ex)).k ex);clear X7 m7 k7 KZ ld JW B7 Kb;generalize wc=W8 at XT ST BT kT Kc ⊢;obtain⟨t0,_⟩:=XT.c0;obtain⟨t1,_⟩:=XT.c1;obtain⟨t2,_⟩:=XT.c2;obtain⟨t3,_⟩:=XT.c3;obtain⟨t4,_⟩:=XT.c4;obtain⟨t5,_⟩:=XT.c5;have kc:ZW W8 (Q (B (z w)+1) 0 Z)=T (Y P i c5):=by simp[World.cell?,kT.i]
   have AL:=ae ((BS W8).alloc ly (N #[U x.e,J I x.m,J I x.M,U x.H,Y aa na ca,Y al nl ZR] 58));have DA:=ae (D4.aa (BT.k (AL.P BT.size)) ly);have SA:=ae (ST.aa AL ly);have kA:=ae ((AL.p _ (ah kT)).k kT);have KJ:=ae ((AL.p _ (ah Kc)).k Kc);have BA:=ae (B4.k ((BT.k (AL.P BT.size)).P (by omega)));have OW:Hid (ZY World (ZV W8 (N #[U x.e,J I x.m,J I x.M,U x.H,Y aa na ca,Y al nl ZR] 58)) (B (z w)+2) 58 6 (Y P i c5) i (R.flatMap ddV)):=by have h:=DA.y;rw[ur] at h;exact h
   have Kq:Hid (∀j,(Value.slice P i c5).ownBlock=T j->B (z w)+2<=j):=λj e=>(OW.lt j e).1;have Lz:B (z (ZV W8 (N #[U x.e,J I x.m,J I x.M,U x.H,Y aa na ca,Y al nl ZR] 58)))=B (z W8)+1:=by simp
   have hzT:=BT.size;go_wp2_with (at_builtin;refine DN _ rfl (.tmp 121) (.tmp 123) 23 rfl (B (z w)+2) 58 LN (ZJ #[U ⟨#[]⟩,J I 0,J I 0,U ⟨#[]⟩,Y Z 0 0,Y Z 0 0]) 6 96 QC Lt Lm Lh Ln rfl (by decide) (Y P i c5) i (R.flatMap ddV) (by simp[Act.eval]) OW.i (Q (B (z W8)) 0 Z) 1 1 [U x.e,J I x.m,J I x.M,U x.H,Y aa na ca,Y al nl ZR] (by simp[Act.eval]) rfl (Ds W8 _ _ _ _ _ _ _) (by simp[Value.oneCell']) (by unfold maxLen;omega) (by omega) (by omega) ?_;intro v' w9 G D _;obtain⟨a7,c7,rfl⟩:=bM G;have O9:=ae G;have G9:=ae D;have k9:=ae ((D.p _ (ah kA) (λe=>by have:=Kq.i _ e.c;omega)).k kA);have g9:ZW w9 (Q (B (z w)+1) 0 Z)=T (Y P i c5):=(by simp[World.cell?,k9.i]);have f9:ZX w9 (Q (B (z w)+1) 0 Z)=ZA:=(by simp[World.frozen?,k9.i]);have l9:=ah k9.i;clear G D);have D9:Hid (DRow w9 (B (z w)+2) (Y a7 (i+1) c7) (R++[(bo S f x,Y aa na ca,Y al nl ZR)])):=DRow.more D4 DA (by omega) SA (by rw[ur];exact O9) G9;have LE:=ae ((G9.p _ (ah KJ) (λe=>by have:=Kq.i _ e.c;omega)).k KJ);have B9:=ae (bg BA G9 (by omega) (λj e=>by have:=Kq.i j e;omega));have LD:=ae (D9.set (p:=(Q (B (z w)+1) 0 Z)) (e:=25) (.inl (eL _)) (Y a7 (i+1) c7));have LF:Hid ((ZU w9 (Q (B (z w)+1) 0 Z) (Y a7 (i+1) c7)).heap[B (z w)+1]?=T (N #[Y a7 (i+1) c7] 25 (0,0))):=aw k9 _;have Le:Hid ((ZU w9 (Q (B (z w)+1) 0 Z) (Y a7 (i+1) c7)).heap[B (z w)]?=T (N #[Y Z 0 0] 25 (0,0))):=(qh _ _ _ _ (show (B (z w))≠B (z w)+1 by omega)).k LE.i;have Lu:=ae (B9.setCell (p:=(Q (B (z w)+1) 0 Z)) (BV _) (Y a7 (i+1) c7));refine⟨⟨i+1,a7,c7,_,by omega,by go_num,by rw[cM,ur];rfl,?_,LD,LF,Le,Lu⟩,by simp[intOf];omega⟩;show(R++[((bo S f x,Y aa na ca,Y al nl ZR):DR)]).map (·.1)=_;rw[NE,Kn.i,V4,HX.i];simp
  ·have e:i=n:=by omega
   subst e;have Ls:ZW wr (Q (B (z w)) 0 Z)=T (Y Z 0 0):=by simp[World.cell?,ex.i]
   have rf0:ZX wr (Q (B (z w)) 0 Z)=ZA:=by simp[World.frozen?,ex.i]
   have rl0:=ah ex.i;have ac0:ZW wr (Q (B (z w)+1) 0 Z)=T (Y P i c5):=by simp[World.cell?,k4.i]
   have al0:=ah k4.i;go_wp2;refine bp (v:=ZJ #[Y P i c5]) (by simp[results,results63,go_sem,Ls]) rfl ?_;subst ur;refine⟨P,c5,R,rfl,?_,?_,?_⟩;{exact(D4.set (p:=(Q (B (z w)) 0 Z)) (e:=25) (.inl (show (B (z w))<B (z w)+2 by omega)) _).P (by omega)};{rw[Kn.i,NV (by rw[<-HN.i];exact p7 _)];rfl};{exact B4.setCell (p:=(Q (B (z w)) 0 Z)) ly _}
end
def wD (w:E)(S:x_)(b:List zt × jj)(e:Ending)(f:E):Prop:=∃a c R g,e=ZI (.tuple #[ZJ #[Y a (A R) c],g])/\DRow f (B (z w)) (Y a (A R) c) R/\R.map (·.1)=bk S b.1/\oJ w f b.2 g/\Below (B (z w)) w f
section
variable {S:x_}{a0 a1:O_}{c0 c1:Nat}
def wE (w:E)(nm:F_)(x:Qx w a0 S.n0 S.f0)(u:Qq w a1 S.n1 S.f1)(hn0:S.n0<=1048576)(hn1:S.n1<=1048576)(q:∀i,i<S.n1->aP (S.f1 i))(H:∀i,i<S.n1->∀j,j<(S.f1 i).h->((S.f1 i).u j).s.size<=maxLen)(m:¬ (aR S.n0 S.f0 S.n1 S.f1=0/\aA nm=ZH)):Calls Pg 22 #[ZJ #[Y a0 S.n0 c0,Y a1 S.n1 c1],U nm] w λe M=>wD w S ([],⟨9,⟨#[]⟩,[]⟩) e M:=by
 have y:=ae (λ(o:E) (b:Hid (Below (B (z w)) w o))=>eK a0 S.n0 c0 S.f0 a1 S.n1 c1 S.f1 o (by omega) (by omega) (x.aa b ly) (u.aa b ly) q H);obtain⟨Z8,t⟩:∃Z8,Z8=aR S.n0 S.f0 S.n1 S.f1:=⟨_,rfl⟩
 rw[<-t] at y m;have D:=ae m;clear x u q H t m hn0 hn1;go_enter func22,ntmps22;go_wp2_with fail;generalize ZT:World.alloc (World.alloc (World.alloc w _) _) _=o;obtain⟨b,ZQ,l,f,-⟩:=nb3 ZT;replace f:Hid (o.heap[B (z w)+1+1]?=_):=f;clear ZT;refine(y o b).P ?_;clear y;rintro e ZS⟨rfl,g⟩;replace b:=ae (b.k (g.P b.size));replace l:=ae ((g.p _ (ah l)).k l);replace f:=ae ((g.p _ (ah f)).k f);clear g ZQ;by_cases C:Z8=0;case' pos =>
  have ZZ:Hid (aA nm=ZA):=by
   cases h:aA nm with
   |false=>rfl
   |true=>exact absurd ⟨C,h⟩ D
  subst C;go_wp2_with fail;refine(dl nm ZS).P ?_;rintro e Z9⟨G,g⟩;rw[ZZ.i] at G;subst G;replace b:=ae (b.k (g.P b.size));replace l:=ae ((g.p _ (ah l)).k l);replace f:=ae ((g.p _ (ah f)).k f);clear g
 case' neg =>
  obtain⟨Z9,ZR⟩:∃v,v=ZS:=⟨_,rfl⟩
  subst ZR
 all_goals
  have L:=b;have n:=l.i;obtain⟨rl,r0,r1,O,r⟩:=bR f.i;have rf0:=r 0;have rf1:=r 1;have rf2:=r 2;have K:ZW Z9 (Q (B (z w)+1) 0 Z)=T (Y Z 0 0):=by simp[World.cell?,n]
  have pf0:ZX Z9 (Q (B (z w)+1) 0 Z)=ZA:=by simp[World.frozen?,n]
  have pl:=ah n;clear r n l f;go_wp2_with fail;refine bp (v:=.tuple #[ZJ #[Y Z 0 0],ZJ #[J I 9,U ⟨#[]⟩,Y Z 0 0]]) (by simp[results,results22,go_sem,K,r0,r1,O]) rfl ⟨Z,0,[],_,rfl,jK _ _,rfl,kw _ _ _ _,?_⟩;exact(((L.setCell (p:=(Q (B (z w)+1) 0 Z)) (BV _) _).setCell (p:=(Q (B (z w)+1+1) 0 Z)) (by show (B (z w))<=B (z w)+1+1;omega) _).setCell (p:=(Q (B (z w)+1+1) 1 Z)) (by show (B (z w))<=B (z w)+1+1;omega) _).setCell (p:=(Q (B (z w)+1+1) 2 Z)) (by show (B (z w))<=B (z w)+1+1;omega) _
def xJ (w:E)(nm:F_)(mv:Qx w a0 S.n0 S.f0)(ex:Qq w a1 S.n1 S.f1)(hn0:S.n0<=1048576)(hn1:S.n1<=1048576)(X:∀i,i<S.n1->aP (S.f1 i))(hs:∀i,i<S.n1->∀j,j<(S.f1 i).h->((S.f1 i).u j).s.size<=maxLen)(h1:aR S.n0 S.f0 S.n1 S.f1=0)(h2:aA nm=ZH):Calls Pg 22 #[ZJ #[Y a0 S.n0 c0,Y a1 S.n1 c1],U nm] w λe w'=>wD w S (bE S nm) e w':=by
 have HC:=ae (λ(W0:E) (ZM:Hid (Below (B (z w)) w W0))=>eK a0 S.n0 c0 S.f0 a1 S.n1 c1 S.f1 W0 (by omega) (by omega) (mv.aa ZM ly) (ex.aa ZM ly) X hs);have V0:=ae mv;have V1:=ae ex;have JO:=ae X;have ur:=ae (SpcOk.of h1);have H1:=ae h1;have H2:=ae h2;rw[h1] at HC;obtain⟨bb,M⟩:∃bb,bb=bE S nm:=⟨_,rfl⟩
 obtain⟨ld,o,-⟩:=mh S nm;rw[<-M] at ld o ⊢;unfold bE at M;rw[eT ⟨h1,h2⟩] at M;have fd:=ae M;have JM:=ae ld;have GS:=ae o;clear mv ex X hs hn0 hn1 h1 h2 M ld o;go_enter func22,ntmps22;go_wp2_with fail;generalize hW:World.alloc (World.alloc (World.alloc w _) _) _=W0;obtain⟨ZM,kS,kA,kR,-⟩:=nb3 hW;replace kR:Hid (W0.heap[B (z w)+1+1]?=_):=kR;clear hW;refine(HC W0 ZM).P ?_;clear HC;rintro e w1⟨rfl,n⟩;have B1:=ae (ZM.k (n.P ZM.size));have ph:=ae ((n.p _ (ah kA)).k kA);have qr:=ae ((n.p _ (ah kR)).k kR);have sm:=ae ((n.p _ (ah kS)).k kS);clear n;go_wp2_with fail;refine(dl nm w1).P ?_;rintro e w2⟨he,n⟩;rw[H2.i] at he;subst he;have B2:=ae (B1.k (n.P B1.size));have th:=ae ((n.p _ (ah ph)).k ph);have At:=ae ((n.p _ (ah qr)).k qr);have aq:=ae ((n.p _ (ah sm)).k sm);have hsl:B (z w)<B (z w2):=ah aq.i;have q0:ZW w2 (Q (B (z w)) 0 Z)=T (Y a0 S.n0 c0):=by simp[World.cell?,aq.i]
 have q1:ZW w2 (Q (B (z w)) 1 Z)=T (Y a1 S.n1 c1):=by simp[World.cell?,aq.i]
 clear n;go_wp2_with fail;refine(xH w2 ⟨V0.aa B2 ly,V1.aa B2 ly,ur⟩ nm H2).P ?_;rintro e f⟨hb,rfl,g,n⟩;have B3:=ae (B2.k (n.P B2.size));have t:=ae ((n.p _ (ah th)).k th);have q:=ae ((n.p _ (ah At)).k At);clear q0 q1 n;have ZS:B (z w)<=B (z f):=B3.size;have D:=xI S 60 [] [] nm;rcases hl:aT S 60 [] [] nm with⟨y,x⟩|c|d
 ·rw[hl] at g;obtain⟨r,m⟩:∃r,r=dt x:=⟨_,rfl⟩
  have e:bb=(y,r):=by rw[fd.i,hl,m]
  subst e;obtain⟨L,md,or,st,l,Fk,DE,ro,hrel⟩:=g;obtain⟨P,b0,b1,b2,b3,-,b5,b6,b7,b8,-⟩:=l.K;have JJ:Hid (ShAt (B (z w2)) f hb (Y a0 S.n0 c0) (Y a1 S.n1 c1) md or L y):=⟨P,b0,b1,b2,b3,Fk,DE,ro⟩
  have Fm:=ae hrel;have la:r.R=[]:=by rw[m];unfold dt;split<;>rfl
  rw[<-m] at b5 b6;have bt:=ae la;have SQ:Hid (∀V:E,V.heap[hb]?=f.heap[hb]?->ZW V (Q hb 5 Z)=T (J I r.M)/\ZW V (Q hb 6 Z)=T (U r.H)/\ZW V (Q hb 7 Z)=T (Y Z 0 0)):=λV h=>⟨(cq (a:=(Q hb 5 Z)) h).k b5,(cq (a:=(Q hb 6 Z)) h).k b6,(cq (a:=(Q hb 7 Z)) h).k b7⟩
  have ZN:hb≠B (z w)+1:=λe=>by have:=ar l (e ▸ t.i);exact absurd this (by decide)
  have H:hb≠B (z w)+1+1:=λe=>by have:=ar l (e ▸ q.i);exact absurd this (by decide)
  have CM:Hid (Calls Pg 63 #[.pointer (T (Q hb 0 Z))] f.drew λe w'=>∃a c R,e=ZI (ZJ #[Y a (A R) c])/\DRow w' (B (z f)) (Y a (A R) c) R/\R.map (·.1)=bk S y/\Below (B (z f)) f w'):=by have hd:Below (B (z f)) f f.drew:=br.drew;have h:=AE (B (z w2)) f.drew hb md or L y (JJ.aa hd ly) Fm JM GS (V0.aa (B3.k (hd.P ZS)) ly) (V1.aa (B3.k (hd.P ZS)) ly) ur JO;exact h.P λe w' ⟨a,c,R,h1,h2,h3,h4⟩=>⟨a,c,R,h1,h2,h3,h4.os,h4.tape,h4.output,h4.size,h4.p⟩
  clear m la hrel l Fk DE ro b0 b1 b2 b3 hl D;go_wp2_with fail;refine wp_region_held_drew (S:=λV=>ZW V (Q hb 5 Z)=T (J I r.M)/\ZW V (Q hb 6 Z)=T (U r.H)/\ZW V (Q hb 7 Z)=T (Y Z 0 0)) (by kernel_rfl) (SQ _ rfl) ?_;intro hS;have ZP:=ae hS;clear hS b5 b6 b7 b8;refine aN 0 (v:=?_) rfl rfl (by kernel_rfl) (λ_ _ _ h=>h) rfl ?_ ZP ?_;rotate_left
  ·(rintro wz⟨s0,s1,s2⟩;go_simp)
   (try with_reducible rfl)
  (try simp only[Act.put,yh])
  iterate 4
   refine aN 2 (v:=?_) rfl rfl (by kernel_rfl) (λ_ _ _ h=>h) rfl ?_ ZP ?_;rotate_left
   ·(rintro wz⟨s0,s1,s2⟩;go_simp)
    (try with_reducible rfl)
   (try simp only[Act.put,yh])
  refine aL (i:=1) rfl (by kernel_rfl) λK ZZ=>?_;go_simp;go_at_call 63;refine CM.P ?_;rintro e w4⟨W,c5,R,rfl,Fd,Bk,DQ⟩;have D4:=ae Fd;have M4:=ae Bk;have B4:=ae DQ;clear Fd Bk DQ ZP;have ZP:=ae (SQ w4 (B4.p _ P));refine ZZ _ _ ZP ?_;clear ZZ K
  (try simp only[Act.put,yh])
  refine aL (i:=6) rfl (by kernel_rfl) λK ZZ=>?_;go_simp;go_at_call 62;have CC:=qW w4 r Z 0 (B (z w4)) (by rw[bt.i];exact⟨rfl,.inl ⟨rfl,rfl⟩⟩) (by rw[bt.i];exact DW _);rw[bt.i] at CC;refine CC.P ?_;clear CC;rintro e ZQ⟨rv,rfl,⟨C,Z8,rfl,ZR⟩,O⟩;have Z9:=ae ZR;have ZT:=ae O;have ZL:B (z f)<=B (z w4):=B4.size;have u:=(ZT.p _ (lj (ah t) ZL)).k ((B4.p _ (ah t)).k t);have ZO:=(ZT.p _ (lj (ah q) ZL)).k ((B4.p _ (ah q)).k q);obtain⟨rl,r0,r1,r2,G⟩:=bR ZO;have JK:=G 0;have JP:=G 1;have Hx:=G 2;have p0:ZW ZQ (Q (B (z w)+1) 0 Z)=T (Y Z 0 0):=by simp[World.cell?,u]
  have JL:ZX ZQ (Q (B (z w)+1) 0 Z)=ZA:=by simp[World.frozen?,u]
  have pl:=ah u;have JG:B (z w)+1<B (z f):=ah t.i;have JI:B (z w)+1+1<B (z f):=ah q.i;have n9:=(ZT.p hb (lj P ZL)).k (B4.p hb P);clear G u ZO ZP ZR O;have ZP:=ae (SQ ZQ n9);refine ZZ _ _ ZP ?_;clear ZZ K
  (try simp only[Act.put,yh])
  refine aL (i:=7) rfl (by kernel_rfl) λK ZZ=>?_;go_simp;have JH:=ae (SQ (ZU ZQ (Q (B (z w)+1) 0 Z) (Y W (A R) c5)) ((qh _ _ _ _ ZN).k n9));refine ZZ _ _ JH ?_;clear ZZ K
  (try simp only[Act.put])
  have JN:=ae (SQ (ZU (ZU (ZU (ZU ZQ (Q (B (z w)+1) 0 Z) (Y W (A R) c5)) (Q (B (z w)+1+1) 0 Z) (J I r.M)) (Q (B (z w)+1+1) 1 Z) (U r.H)) (Q (B (z w)+1+1) 2 Z) (Y C (A r.R) Z8)) ((qh _ _ _ _ H).k ((qh _ _ _ _ H).k ((qh _ _ _ _ H).k ((qh _ _ _ _ ZN).k n9)))));refine aL (i:=8) rfl (by kernel_rfl) λK ZZ=>?_;go_simp;refine ZZ _ _ JN ?_;clear ZZ K
  (try simp only[Act.put])
  refine wpAnyH_done (by kernel_rfl) ?_ _;have OF:=ae (aB (aB (aB (aB Z9 (b:=B (z w)+1) (λe=>by have:=(af Z9 _ e).1;omega) 0 (Y W (A R) c5)) (b:=B (z w)+1+1) (λe=>by have:=(af Z9 _ e).1;omega) 0 (J I r.M)) (b:=B (z w)+1+1) (λe=>by have:=(af Z9 _ e).1;omega) 1 (U r.H)) (b:=B (z w)+1+1) (λe=>by have:=(af Z9 _ e).1;omega) 2 (Y C (A r.R) Z8));have DF:=ae (((((D4.aa ZT ly).set (p:=(Q (B (z w)+1) 0 Z)) (e:=25) (.inl (by show (B (z w))+1<B (z f);omega)) (Y W (A R) c5)).set (p:=(Q (B (z w)+1+1) 0 Z)) (e:=25) (.inl (by show (B (z w))+1+1<B (z f);omega)) (J I r.M)).set (p:=(Q (B (z w)+1+1) 1 Z)) (e:=25) (.inl (by show (B (z w))+1+1<B (z f);omega)) (U r.H)).set (p:=(Q (B (z w)+1+1) 2 Z)) (e:=25) (.inl (by show (B (z w))+1+1<B (z f);omega)) (Y C (A r.R) Z8));have BF:=ae (((((B3.k ((B4.k (ZT.P ZL)).P ZS)).setCell (p:=(Q (B (z w)+1) 0 Z)) (by show (B (z w))<=B (z w)+1;omega) (Y W (A R) c5)).setCell (p:=(Q (B (z w)+1+1) 0 Z)) (by show (B (z w))<=B (z w)+1+1;omega) (J I r.M)).setCell (p:=(Q (B (z w)+1+1) 1 Z)) (by show (B (z w))<=B (z w)+1+1;omega) (U r.H)).setCell (p:=(Q (B (z w)+1+1) 2 Z)) (by show (B (z w))<=B (z w)+1+1;omega) (Y C (A r.R) Z8));go_wp2;refine bp (v:=.tuple #[ZJ #[Y W (A R) c5],ZJ #[J I r.M,U r.H,Y C (A r.R) Z8]]) (by simp[results,results22,go_sem,p0,r0,r1,r2]) rfl ⟨W,c5,R,_,rfl,DF.P ZS,M4,⟨C,Z8,rfl,aE OF (by omega)⟩,BF⟩
 case' inr.inl =>
  rw[hl] at g;obtain⟨r,m⟩:∃r,r=jx c:=⟨_,rfl⟩
  have e:bb=([],r):=by rw[fd.i,hl,m];rfl
  subst e;obtain⟨a,k,u0,u1,md,or,st,l,ho⟩:=g;have o:A r.R<=1000:=by rw[m];exact nX (D c hl) (by simp)
  have g:A c=A r.R:=by rw[m];rfl
  rw[<-m,g] at l ho;clear m g
 case' inr.inr =>
  rw[hl] at g;obtain⟨r,m⟩:∃r,r=jy d:=⟨_,rfl⟩
  have e:bb=([],r):=by rw[fd.i,hl,m];rfl
  subst e;obtain⟨u0,u1,md,or,st,l,ho⟩:=g;have o:A r.R<=1000:=by rw[m];exact DW _
  have g:0=A r.R:=by rw[m];rfl
  rw[<-m,g] at l ho;clear m g
 all_goals
  obtain⟨P,-,-,-,-,-,b5,b6,b7,b8,-⟩:=l.K;have Id:=ae (qW f r _ _ _ ho o);have ZN:hb≠B (z w)+1:=λe=>by have:=ar l (e ▸ t.i);exact absurd this (by decide)
  have H:hb≠B (z w)+1+1:=λe=>by have:=ar l (e ▸ q.i);exact absurd this (by decide)
  clear hl D l ho o;go_wp2_with fail;refine Id.P ?_;rintro e ZQ⟨rv,rfl,⟨C,Z8,rfl,ZR⟩,O⟩;have Z9:=ae ZR;have ZT:=ae O;have u:=(ZT.p _ (ah t)).k t;have ZO:=(ZT.p _ (ah q)).k q;obtain⟨rl,r0,r1,r2,G⟩:=bR ZO;have JK:=G 0;have JP:=G 1;have Hx:=G 2;have p0:ZW ZQ (Q (B (z w)+1) 0 Z)=T (Y Z 0 0):=by simp[World.cell?,u]
  have JL:ZX ZQ (Q (B (z w)+1) 0 Z)=ZA:=by simp[World.frozen?,u]
  have pl:=ah u;have JG:B (z w)+1<B (z f):=ah t.i;have JI:B (z w)+1+1<B (z f):=ah q.i;have OF:=ae (aB (aB (aB (aB Z9 (b:=B (z w)+1) (λe=>by have:=(af Z9 _ e).1;omega) 0 (Y Z 0 0)) (b:=B (z w)+1+1) (λe=>by have:=(af Z9 _ e).1;omega) 0 (J I r.M)) (b:=B (z w)+1+1) (λe=>by have:=(af Z9 _ e).1;omega) 1 (U r.H)) (b:=B (z w)+1+1) (λe=>by have:=(af Z9 _ e).1;omega) 2 (Y C (A r.R) Z8));have BF:=ae (((((B3.k (ZT.P ZS)).setCell (p:=(Q (B (z w)+1) 0 Z)) (by show (B (z w))<=B (z w)+1;omega) (Y Z 0 0)).setCell (p:=(Q (B (z w)+1+1) 0 Z)) (by show (B (z w))<=B (z w)+1+1;omega) (J I r.M)).setCell (p:=(Q (B (z w)+1+1) 1 Z)) (by show (B (z w))<=B (z w)+1+1;omega) (U r.H)).setCell (p:=(Q (B (z w)+1+1) 2 Z)) (by show (B (z w))<=B (z w)+1+1;omega) (Y C (A r.R) Z8));clear G u ZO ZR O b5 b6 b7 b8;go_wp2_with fail;refine bp (v:=.tuple #[ZJ #[Y Z 0 0],ZJ #[J I r.M,U r.H,Y C (A r.R) Z8]]) (by simp[results,results22,go_sem,p0,r0,r1,r2]) rfl ⟨Z,0,[],_,rfl,jK _ _,rfl,⟨C,Z8,rfl,?_⟩,?_⟩
  ·first|exact aE OF (by omega)|(have h:=aE OF (show (B (z w))<=B (z f) by omega);simpa[p0] using h)
  ·first|exact BF|simpa[p0] using BF.i
def wF (w:E)(nm:F_)(g:Qx w a0 S.n0 S.f0)(f:Qq w a1 S.n1 S.f1)(hn0:S.n0<=1048576)(hn1:S.n1<=1048576)(b:∀i,i<S.n1->aP (S.f1 i))(l:∀i,i<S.n1->∀j,j<(S.f1 i).h->((S.f1 i).u j).s.size<=maxLen):Calls Pg 22 #[ZJ #[Y a0 S.n0 c0,Y a1 S.n1 c1],U nm] w λe m=>wD w S (bE S nm) e m:=by
 by_cases h:aR S.n0 S.f0 S.n1 S.f1=0/\aA nm=ZH;{exact xJ w nm g f hn0 hn1 b l h.1 h.2}
 ·have e:bE S nm=([],⟨9,⟨#[]⟩,[]⟩):=by unfold bE;rw[eI h]
  rw[e];exact wE w nm g f hn0 hn1 b l h
end
