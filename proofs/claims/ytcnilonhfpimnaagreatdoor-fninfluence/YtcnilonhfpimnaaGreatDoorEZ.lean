import Derived.Test.YtcnilonhfpimnaaGreatDoorEX
import Derived.Test.YtcnilonhfpimnaaGreatDoorEQ
set_option linter.all false
set_option maxRecDepth 100000
set_option maxHeartbeats 8000000
open Go renaming Addr.mk->T,Value.slice->Y,Value.string->U,Value.int->J,Value.bool->ZF,Value.agg->ZJ,Obj.cells->N,IntKind.i64->I,World->E,Value->ZB,Ending.returned->ZI,World.heap->B,World.ownsRow->ZY,World.alloc->ZV,World.cell?->ZW,World.frozen?->ZX,World.setCell->ZU,Proofs.Tryz.prog->Pg,Act.put->p_,Calls->Qw
open Option renaming none->Z,some->Q
open Bool renaming false->ZA,true->ZH
open Array renaming size->z
open List renaming length->A
namespace Go.Proofs.YtcnilonhfpimnaaGreatDoor.Vp
open Tryz RowKit Ca
variable {S:xl}{x:k_}{w:E}{L:List SM}{f b:List k_}{i:Nat}{l:Lk}
def Iq (f:E)(hb:Nat)(s0 s1:ZB)(b:E):Out k_->Prop
 |.inl (made',x)=>∃L g h st,ShBox b hb s0 s1 g h st (dt x).M (dt x).H (Y Z 0 0) ZA/\ZY b (z (B f)) 188 6 g (A L) (L.flatMap smV)/\ZY b (z (B f)) 9 1 h (A made') (bO (made'.map (·.e)))/\(∀m∈L,m.done=ZH->ZY b (z (B f)) 191 3 m.sv (A m.V) (eG m.V))/\fM L [] made'
 |.inr (.inl c)=>∃a k,jb f hb b (jx c) (Y a (A c) k)
 |.inr (.inr d)=>jb f hb b (jy d) (Y Z 0 0)
section
variable {S:xl}{a0 a1:O_}{c0 c1:Nat}
def xH (w:E)(C:pJ w S a0 a1)(nm:F_)(hn:aA nm=ZH):Qw Pg 78 #[ZJ #[Y a0 S.n0 c0,Y a1 S.n1 c1],U nm] w λe M=>∃hb,e=ZI (.pointer (Q (T hb 0 Z)))/\Iq w hb (Y a0 S.n0 c0) (Y a1 S.n1 c1) M (aT S 60 [] [] nm)/\Below (z (B w)) w M:=by
 obtain⟨R,hR⟩:∃R,R=aT S 60 [] [] nm:=⟨_,rfl⟩
 have ZM:Hid (∀(W:E) (hb:Nat),SI w hb (Y a0 S.n0 c0) (Y a1 S.n1 c1) W [] [] [] (Y Z 0 0) (Y Z 0 0) (Y Z 0 0)->Qw Pg 120 #[.pointer (Q (T hb 0 Z)),U nm] W λe M=>mF w hb (Y a0 S.n0 c0) (Y a1 S.n1 c1) [] [] W e M R):=by intro W hb P;rw[hR];refine Gf C 60 [] [] [] _ _ _ W nm rfl P ⟨List.Pairwise.nil,rfl,λx t=>absurd t nj,λx t=>absurd t nj,λx t=>absurd t nj⟩ (gv S []) ?_ (λx t=>absurd t nj) hn;have h1:=wv S;have h2:=C.ok.bb;unfold fm;simp only[IS];omega
 rw[<-hR];have zA:z (B (ZV w (N #[Y a0 S.n0 c0,Y a1 S.n1 c1] 29)))=z (B w)+1:=by simp
 obtain⟨W0,Z9⟩:∃W:E,ZV (ZV w (N #[Y a0 S.n0 c0,Y a1 S.n1 c1] 29)) (N #[Y a0 S.n0 c0,Y a1 S.n1 c1,Y Z 0 0,Y Z 0 0,Y Z 0 0,J I 0,U ⟨#[]⟩,Y Z 0 0,ZF ZA] 141)=W:=⟨_,rfl⟩
 obtain⟨ZO,-,-,-⟩:=nb2 Z9;have y:=ae Z9;clear Z9;have S0:Hid (SI w (z (B w)+1) (Y a0 S.n0 c0) (Y a1 S.n1 c1) W0 [] [] [] (Y Z 0 0) (Y Z 0 0) (Y Z 0 0)):=by
  cases y.i
  refine⟨ZO,BV _,?_,⟨rfl,.inl ⟨rfl,rfl⟩⟩,⟨rfl,.inl ⟨rfl,rfl⟩⟩,⟨rfl,.inl ⟨rfl,rfl⟩⟩,(λk h=>by cases h),λm V=>absurd V nj⟩;have h2:=gM (ZV w (N #[Y a0 S.n0 c0,Y a1 S.n1 c1] 29)) (N #[Y a0 S.n0 c0,Y a1 S.n1 c1,Y Z 0 0,Y Z 0 0,Y Z 0 0,J I 0,U ⟨#[]⟩,Y Z 0 0,ZF ZA] 141);rw[zA] at h2;exact h2
 clear hn C hR zA;go_enter func78,ntmps78;go_wp2_with fail;rw[y.i];clear y;obtain⟨hb,ZP⟩:∃hb,hb=z (B w)+1:=⟨_,rfl⟩
 rw[<-ZP] at S0 ⊢;have ZS:z (B w)<=hb:=by omega
 clear ZP;refine(ZM W0 hb S0).P ?_;clear ZM;rintro e r l;rcases R with⟨made',x⟩|c|d
 ·obtain⟨L,md,or,st,rfl,P,hrel,-,f⟩:=l;have o:=ae (ZO.k f.aa);have ld:=ae hrel;obtain⟨Z8,G⟩:∃Z8,Z8=(dt x).M:=⟨_,rfl⟩
  obtain⟨ZT,ZR⟩:∃ZT,ZT=(dt x).H:=⟨_,rfl⟩
  have fd:=ae G;have la:=ae ZR;rw[<-G,<-ZR];have i:=ae ((BS r).alloc ly (N #[J I Z8,U ZT,Y Z 0 0] 88));have D:=ae (P.aa i ly);clear f hrel P G ZR;obtain⟨ZN,-,-,-,-,-,b5,b6,b7,b8,O⟩:=D.ab.y;have bf5:=O 5;have bf6:=O 6;have bf7:=O 7;clear O;go_wp2_with fail;go_ret;have ZZ:∀{size n:Nat} {ZQ:TypeId} {u:ZB} {X:List ZB},(r.alloc (N #[J I Z8,U ZT,Y Z 0 0] 88)).ownsRow (z (B w)) ZQ size u n X->141≠ZQ->((((r.alloc (N #[J I Z8,U ZT,Y Z 0 0] 88)).setCell (T hb 5 Z) (J I Z8)).setCell (T hb 6 Z) (U ZT)).setCell (T hb 7 Z) (Y Z 0 0)).ownsRow (z (B w)) ZQ size u n X:=λhr ht=>by
   rename_i size n ZQ u X;have H:u.ownBlock≠Q hb:=λe=>by obtain⟨_,_,cs2,ex⟩:=af hr hb e;exact absurd (ar D.ab ex) ht
   exact aB (aB (aB hr H _ _) H _ _) H _ _
  refine⟨hb,rfl,⟨L,md,or,st,?_,ZZ D.X (by decide),ZZ D.ror (by decide),λm V hd=>ZZ (D.V m V hd) (by decide),ld⟩,?_⟩;{rw[<-fd.i,<-la.i];exact aw (aw (aw D.ab (j:=5) _) (j:=6) _) (j:=7) _};{exact(((o.k (i.P o.size)).setCell (p:=(T hb 5 Z)) ZS _).setCell (p:=(T hb 6 Z)) ZS _).setCell (p:=(T hb 7 Z)) ZS _}
 {obtain⟨a,k,rfl,⟨s0,s1,aq,bt,ZL,g,b⟩,f⟩:=l;have s:=ae g;have K:=ae b;have o:=ae (ZO.k f.aa);clear g b f;unfold jl jx;dsimp only;have i:=ae ((BS r).alloc ly (N #[J I 6,U ⟨#[]⟩,Y a (A c) k] 88));have q:=ae (ShBox.ad s (i.p _ (ah s)));obtain⟨ZN,-,-,-,-,-,-,-,-,b8,-⟩:=q.y;go_wp2_with fail;go_ret;exact⟨hb,rfl,⟨a,k,_,_,_,_,_,q,J_ K i ly⟩,o.k (i.P o.size)⟩};{obtain⟨rfl,⟨s0,s1,aq,bt,ZL,g,b⟩,f⟩:=l;have s:=ae g;have K:=ae b;have o:=ae (ZO.k f.aa);clear g b f;unfold jl jy;dsimp only;have i:=ae ((BS r).alloc ly (N #[J I 7,U d,Y Z 0 0] 88));have q:=ae (ShBox.ad s (i.p _ (ah s)));obtain⟨ZN,-,-,-,-,-,-,-,-,b8,-⟩:=q.y;go_wp2_with fail;go_ret;exact⟨hb,rfl,⟨_,_,_,_,_,q,J_ K i ly⟩,o.k (i.P o.size)⟩}
end
def Gq (w:E)(x:Int)(Z9:F_)(D:List F_)(a:O_)(n c Z8:Nat)(hn:n=A D)(hlen:n<=1000)(ZP:ZY w Z8 9 1 (Y a n c) n (bO D)):Qw Pg 79 #[ZJ #[J I x,U Z9,Y a n c]] w λe X=>∃rv,e=ZI rv/\oJ w X ⟨x,Z9,D⟩ rv/\Below (z (B w)) w X:=by
 obtain⟨i1,ZL,ex,ZM,la⟩:=lE pK;have HO:=ae ZP;have ZS:=ae hn;clear ZP hn;obtain⟨b,ZZ⟩:∃W:E,ZV (ZV w (N #[J I x,U Z9,Y a n c] 88)) (N #[J I 0,U ⟨#[]⟩,Y Z 0 0] 88)=W:=⟨_,rfl⟩
 obtain⟨ZQ,kP,kR,-⟩:=nb2 ZZ;have G:=ae ZZ;clear ZZ;go_enter func79,ntmps79;go_upto_region 1 with fail;rw[G.i];clear G;obtain⟨-,p0,p1,p2,-⟩:=bR kP;have fd:z (B w)+1<z (B b):=ah kR.i;have H:Hid (∀V:E,(∀k,k<z (B b)->V.heap[k]?=b.heap[k]?)->ZW V (T (z (B w)) 0 Z)=Q (J I x)/\ZW V (T (z (B w)) 1 Z)=Q (U Z9)/\ZW V (T (z (B w)) 2 Z)=Q (Y a n c)):=λV ZO=>by have e:=cq (a:=(T (z (B w)) 0 Z)) (ZO (z (B w)) (by omega));have e1:=cq (a:=(T (z (B w)) 1 Z)) (ZO (z (B w)) (by omega));have e2:=cq (a:=(T (z (B w)) 2 Z)) (ZO (z (B w)) (by omega));exact⟨e.k p0,e1.k p1,e2.k p2⟩
 have ZT:=ae (H b.drew (λk r=>rfl));refine aI (λV=>ZW V (T (z (B w)) 0 Z)=Q (J I x)/\ZW V (T (z (B w)) 1 Z)=Q (U Z9)/\ZW V (T (z (B w)) 2 Z)=Q (Y a n c)) 9 (by kernel_rfl) ?_;clear p0 p1 p2;iterate 4
  refine aO 0 (v:=?_) rfl rfl (by kernel_rfl) (λ_ _ _ h=>h) rfl ?_ ZT ?_;rotate_left
  ·(rintro S⟨s0,s1,s2⟩;go_simp)
   (try with_reducible rfl)
  (try simp only[p_,z_])
 iterate 2
  refine aO 5 (v:=?_) rfl rfl (by kernel_rfl) (λ_ _ _ h=>h) rfl ?_ ZT ?_;rotate_left
  ·(rintro S⟨s0,s1,s2⟩;go_simp)
   (try with_reducible rfl)
  (try simp only[p_,z_])
 refine ai (i:=4) rfl (by kernel_rfl) λK m=>?_;go_simp;have AB:=ae (((BS b).drew).alloc ly (N #[] 9));refine m _ _ (λ_=>H _ (λk r=>AB.p k r)) ?_;clear m K
 (try simp only[p_,z_])
 have f:Hid (Below (z (B b)) b (ZV b (N #[] 9)).drew):=((BS b).alloc ly _).drew;have s:Hid ((ZV b (N #[] 9)).drew.ownsRow (z (B b)) 9 1 (Y (Q (T (z (B b)) 0 Z)) 0 0) 0 []):=J_ (oH b 9 1) br.drew ly;have L:Hid ((ZV b (N #[] 9)).drew.ownsRow Z8 9 1 (Y a n c) n (bO D)):=J_ (J_ HO ZQ ly) f ly;refine ai (i:=7) rfl (by kernel_rfl) λK m=>?_;obtain⟨-,⟨O,h0⟩|⟨g,j_,cur,O,-⟩⟩:=id L.i;focus
  have e0:D=[]:=VJ.1 (ZS.i.c.k h0);cases O
  subst e0;go_simp;have y:=f;obtain⟨a1,c1,ZN,ZR⟩:∃a1 c1,(Y a1 0 c1:ZB)=Y (Q (T (z (B b)) 0 Z)) 0 0/\Hid ((ZV b (N #[] 9)).drew.ownsRow (z (B b)) 9 1 (Y a1 0 c1) 0 (bO [])):=⟨_,_,rfl,s⟩
  rw[<-ZN];clear f s L AB ZN;refine m _ _ (λ_=>H _ (λk r=>y.p k r)) ?_;generalize (ZV b (N #[] 9)).drew=P at y ZR ⊢
 rotate_left;focus
  cases O
  refine aU (w:=(ZV b (N #[] 9)).drew) rfl (.tmp 7) (.tmp 9) 43 rfl (z (B b)) 9 i1 (U ⟨#[]⟩) 1 16 NG ZL ex ZM la rfl (by decide) (Y (Q (T (z (B b)) 0 Z)) 0 0) 0 [] (by simp[Act.eval]) s.i (T g 0 Z) n c (bO D) (by simp[Act.eval]) (by rw[bO,PI,<-ZS.i,Nat.mul_one]) (λq u h=>L.cells (g:=g) rfl q u h) (λu hu=>by rw[bO,NM] at hu;obtain⟨t,_,rfl⟩:=hu;rfl) (by unfold maxLen;omega) (by omega) f.size ?_;intro v1 P l C aq;have y:Hid (Below (z (B b)) b P):=f.k (bg (a8 (z (B b)) _) C f.size (λj e=>(s.lt j e).1));rw[IT,NR] at l;have ZR:=ae l;obtain⟨a1,c1,rfl⟩:=jZ l;clear l C aq f s L AB;refine m _ _ (λ_=>H _ (λk r=>y.p k r)) ?_
 all_goals
  clear m K
  (try simp only[p_,z_])
  have bt:=ae (H P (λk r=>y.p k r));clear ZT;have ZT:=ae bt.i;refine aO 8 (v:=?_) rfl rfl (by kernel_rfl) (λ_ _ _ h=>h) rfl ?_ ZT ?_;rotate_left
  ·(rintro S⟨s0,s1,s2⟩;go_simp)
   (try with_reducible rfl)
  (try simp only[p_,z_])
  obtain⟨rl,r0,r1,R,M⟩:=bR ((y.p _ fd).k kR);have rf0:=M 0;have rf1:=M 1;have rf2:=M 2;clear M;refine ai (i:=9) rfl (by kernel_rfl) λK m=>?_;go_simp;refine m _ _ (λh=>absurd rfl h) ?_;clear m K ZT
  (try simp only[p_])
  refine ba (by kernel_rfl) ?_ _;go_wp2_with fail;first|refine bp (v:=ZJ #[J I x,U Z9,Y a1 n c1]) (by simp[results,results79,go_sem,r0,r1,R]) rfl ⟨_,rfl,⟨a1,c1,by rw[<-ZS.i],?_⟩,?_⟩|refine bp (v:=ZJ #[J I x,U Z9,Y a1 0 c1]) (by simp[results,results79,go_sem,r0,r1,R]) rfl ⟨_,rfl,⟨a1,c1,by rw[<-ZS.i],?_⟩,?_⟩
  ·show World.ownsRow _ _ _ _ _ (List.length _) _
   rw[<-ZS.i];refine aE (aB (aB (aB ZR (λe=>?_) _ _) (λe=>?_) _ _) (λe=>?_) _ _) ZQ.size;all_goals
    have:=(af ZR _ e).1;omega
  ·exact(((ZQ.k (y.P ZQ.size)).setCell (p:=(T (z (B w)+1) 0 Z)) (BV _) _).setCell (p:=(T (z (B w)+1) 1 Z)) (BV _) _).setCell (p:=(T (z (B w)+1) 2 Z)) (BV _) _
def qW (w:E)(r:jj)(a:O_)(c Z8:Nat)(h:ZY w Z8 9 1 (Y a (A r.R) c) (A r.R) (bO r.R))(b:A r.R<=1000):Qw Pg 79 #[ZJ #[J I r.M,U r.H,Y a (A r.R) c]] w λe i=>∃f,e=ZI f/\oJ w i r f/\Below (z (B w)) w i:=by obtain⟨j,l,g⟩:=r;simp only at h b ⊢;exact Gq w j l g a (A g) c Z8 rfl b h
def AA{lies:List k_->F_->Out k_}{t K:Nat}(j:∀b nm c,lies b nm=.inr (.inl c)->A c<=K):∀k b g f c,bT S lies t k b g f=.inr (.inl c)->A c<=K:=by
 intro k;induction k with
 |zero=>intro b g f c h;cases h
 |succ k i =>
  intro b g f c h;rw[bT] at h;split at h;{cases h}
  ·split at h;{exact i _ _ _ _ h}
   ·split at h;{exact i _ _ _ _ h}
    ·rename_i c' l;cases h
     exact j _ _ _ l
    {cases h}
def xI (S:xl):∀n b f nm c,aT S n b f nm=.inr (.inl c)->A c<=A b+n:=by
 intro n;have g:∀b f nm c (K:Nat) (tgt:Nat->Out k_),A b<=K->(∀t c,tgt t=.inr (.inl c)->A c<=K)->dB S tgt b f nm=.inr (.inl c)->A c<=K:=by
  intro b f nm c K tgt hK j h;unfold dB at h;split at h;{cases h}
  ·split at h
   ·cases h
    rw[NN];omega
   {unfold eW ee at h;split at h;{cases h};{split at h;{exact j _ _ h};{cases h}}}
 induction n with
 |zero =>intro b f nm c h;rw[aT] at h;exact g _ _ _ _ _ _ (by omega) (λt c h=>by cases h) h
 |succ n i =>
  intro b f nm c h;rw[aT] at h;refine g _ _ _ _ _ _ (by omega) (λt c h=>?_) h;rcases hr:bT S (aT S n (b++[nm])) t 201 f [] [] with⟨made1,x⟩|c1|d;{rw[hr] at h;cases h}
  ·rw[hr] at h;cases h
   refine AA (λf nm2 c2 h2=>?_) _ _ _ _ _ hr;have:=i _ _ _ _ h2;rw[cM,AI] at this;omega
  {rw[hr] at h;cases h}
structure ShAt (Z8:Nat)(w:E)(hb:Nat)(s0 s1 md or:ZB)(L:List SM)(q_:List k_):Prop where
 lt:hb<z (B w)
 c0:ZW w (T hb 0 Z)=Q s0
 c1:ZW w (T hb 1 Z)=Q s1
 c2:ZW w (T hb 2 Z)=Q md
 c3:ZW w (T hb 3 Z)=Q or
 X:ZY w Z8 188 6 md (A L) (L.flatMap smV)
 ror:ZY w Z8 9 1 or (A q_) (bO (q_.map (·.e)))
 V:∀m∈L,m.done=ZH->ZY w Z8 191 3 m.sv (A m.V) (eG m.V)
def ShAt.aa{Z8 C:Nat}{n:E}{hb:Nat}{s0 s1 j l:ZB}(h:ShAt Z8 w hb s0 s1 j l L f)(b:Below C w n)(i:z (B w)<=C):ShAt Z8 n hb s0 s1 j l L f:=by have g:hb<C:=lj h.lt i;exact⟨lj h.lt b.size,(b.O (p:=(T hb 0 Z)) g).k h.c0,(b.O (p:=(T hb 1 Z)) g).k h.c1,(b.O (p:=(T hb 2 Z)) g).k h.c2,(b.O (p:=(T hb 3 Z)) g).k h.c3,J_ h.X b i,J_ h.ror b i,λm o q=>J_ (h.V m o q) b i⟩
def Jf (h:fM L [] b)(r:b[i]?=Q x):∃k m,fI L x.e=Q k/\L[k]?=Q m/\m.e=x.e/\m.done=ZH/\m.M=(dt x).M/\m.H=(dt x).H/\m.V=x.D:=by obtain⟨m,g,f,p,n,j,o⟩:=h.got x (I5 r);obtain⟨k,l,q⟩:=rW h.nod g f;exact⟨k,m,l,q,f,p,n,j,o⟩
def wB (h1:bP S x=0)(h2:x.D=[])(W:E)(b:Nat):DSub W b (bo S f x,Y Z 0 0,Y Z 0 0):=by
 refine⟨?_,?_⟩;{show ZY W b 102 3 (Y Z 0 0) (bP S x) (bZ (S.f1 x.tg).q (bP S x));rw[h1];exact CP _ _ _ _};{show ZY W b 65 4 (Y Z 0 0) (A x.D) (cy (lkF f x.D) (A x.D));rw[h2];exact CP _ _ _ _}
def Gr (h:PG S [] b)(s:b[i]?=Q x)(q:l∈x.D)(r:l.ask=ZH){D:List au}(t:D=(b.take i).map (bo S b)):jF (dF D) l.e i=((iw b l.e:Nat):Int):=by
 obtain⟨y,n,hn,p⟩:=h.asked s q r;have f:∀(j:Nat) (ZZ:k_),j<i->b[j]?=Q ZZ->(dF D j).e=ZZ.e:=λj ZZ m hz=>by unfold dF;rw[t,CL,LR,List.getElem?_take_of_lt m,hz];rfl
 unfold jF;refine fQ p ?_ λj m=>?_;{rw[f _ y p n,hn];simp}
 ·have o:=(j5.1 n).1;have hz:b[j]?=Q b[j]:=gq (by omega);rw[f j _ (by omega) hz];have g:=D0.1 h.nod j _ (by omega) o m;rw[(j5.1 n).2,hn] at g;cases hb:(b[j].e.toList == l.e.toList) with
  |false=>rfl
  |true=>exact absurd (Qv hb) g
def Dt{f g c:Nat}{b:List Lk}(h:ZY w f 191 3 (Y (Q (T g 0 Z)) (A b) c) (A b) (eG b)){k:Nat}(m:b[k]?=Q l)(j:Nat)(i:j<3){u:ZB}(n:[Value.string l.e,ZF l.ask,ZF l.has][j]?=Q u):ZW w (T g (k*3+j) Z)=Q u:=
 (bA h (j:=k*3+j) (u:=u) (by rw[eG,cT (λl:Lk=>[Value.string l.e,ZF l.ask,ZF l.has]) 3 (λ_=>rfl) b k j i l m];exact n)).1
def LkI (S:xl)(h:List k_)(x:k_)(i:Int)(m:F_)(p:O_)(n o l g c4:Nat)(b:E)(al:O_)(k j:Nat)(f:E):Prop:=Hid (DBox f (z (B b)+1) (U x.e) (J I 3) (J I i) (U m) (Y (Q (T l 0 Z)) g c4) (Y al k j))/\Hid (f.heap[z (B b)]?=Q (N #[U x.e,J I i,U m,Y Z 0 0,Y p n o,ZF ZH] 188 (0,0)))/\Hid (ZY f (z (B b)+2) 102 3 (Y (Q (T l 0 Z)) g c4) g (bZ (S.f1 x.tg).q g))/\Hid (ZY f (z (B b)+2) 65 4 (Y al k j) k (lkV h (x.D.take k)))/\Hid (Below (z (B b)) b f)
section
variable {S:xl}{a0 a1:O_}{c0 c1:Nat}
def AE (Z8:Nat)(w:E)(hb:Nat)(md or:ZB)(L:List SM)(f:List k_)
  (JM:ShAt Z8 w hb (Y a0 S.n0 c0) (Y a1 S.n1 c1) md or L f) (hrel:fM L [] f) (Ky:PG S [] f) (Le:A f<=40201)
  (KU:Qx w a0 S.n0 S.f0) (KV:Qq w a1 S.n1 S.f1) (KH:SpcOk S) (Kd:∀i,i<S.n1->aP (S.f1 i)) :
  Qw Pg 80 #[.pointer (Q (T hb 0 Z))] w λe w'=>∃a c R,e=ZI (ZJ #[Y a (A R) c])/\DRow w' (z (B w)) (Y a (A R) c) R/\R.map (·.1)=bk S f/\Below (z (B w)) w w':=by
 have KT:=ae JM;have Lo:=ae hrel;have KZ:=ae Ky;have V0:=ae KU;have V1:=ae KV;have JU:=ae KH;have Lu:=ae Kd;have LI:A L<=40201:=by have:=hrel.len;simp only[IS,QE] at this;omega
 obtain⟨am,cm,rfl⟩:=bM JM.X;obtain⟨ao,co,rfl⟩:=bM JM.ror;obtain⟨ZQ,hN⟩:∃ZQ,ZQ=A L:=⟨_,rfl⟩
 obtain⟨n,hn⟩:∃n,n=A f:=⟨_,rfl⟩
 have ZL:=ae hN;have HN:=ae hn;rw[<-hN,<-hn] at KT;rw[<-hN] at LI;rw[<-hn] at Le;clear JM hrel Ky KU KV KH Kd hN hn;obtain⟨il,LE,Li,Lg,Lh⟩:=NO lH;obtain⟨LB,LP,Ln,Lj,Lm⟩:=NO gC;obtain⟨W0,hW⟩:∃W:E,ZV (ZV w (N #[Y Z 0 0] 25)) (N #[Y Z 0 0] 25)=W:=⟨_,rfl⟩
 obtain⟨A0,kR,kA,-⟩:=nb2 hW;have HW:=ae hW;clear hW;go_enter func80,ntmps80;go_wp2_with fail;rw[HW.i];clear HW;go_loopw [4] (λv wr=>∃(i:Nat) (P:O_) (c5:Nat) (R:List DR),i<=n/\v=J I i/\(A R)=i/\Hid (R.map (·.1)=(f.take i).map (bo S f))/\Hid (DRow wr (z (B w)+2) (Y P i c5) R)/\Hid (wr.heap[z (B w)+1]?=Q (N #[Y P i c5] 25 (0,0)))/\Hid (wr.heap[z (B w)]?=Q (N #[Y Z 0 0] 25 (0,0)))/\Hid (Below (z (B w)) w wr)) (λv _=>n - (intOf v).toNat);case atStart=>exact⟨0,Z,0,[],by omega,rfl,rfl,rfl,jK _ _,kA,kR,A0⟩
 case round =>
  clear kA kR A0;obtain⟨i,P,c5,R,hi,rfl,GS,Kk,D4,k4,fd,B4⟩:=hrel;have M:=ae (KT.aa B4 ly);have hw4:z (B w)+2<=z (B wr):=ah k4.i;have h3:=M.c3;have KP:=M.lt;by_cases LJ:i<n
  ·obtain⟨x,hx⟩:∃x,f[i]?=Q x:=⟨_,gq (by rw[<-HN.i];exact LJ)⟩
   obtain⟨j,m,hf,hm,e1,e2,e3,e4,e5⟩:=Jf Lo hx;have ur:=M.ror;have O:=M.X;rw[<-HN.i] at ur;rw[<-ZL.i] at O;obtain⟨go,co',e⟩:=dr ur (by omega);simp only[IN,TX] at e;obtain⟨rfl,rfl⟩:=e;have hjN:j<ZQ:=by rw[ZL.i];exact(j5.1 hm).1
   obtain⟨r,cm',e⟩:=dr O (by omega);simp only[IN,TX] at e;obtain⟨rfl,rfl⟩:=e;have oc:ZW wr (T go i Z)=Q (U x.e):=(bA ur (by rw[bO,LR,LR,hx];rfl)).1;have Lv:=(cV ur).2;have ld:=(cV O).2;have h2:=M.c2;have Fk:=M.V m (I5 hm) e2;obtain⟨sa,ZT,JP⟩:=bM Fk;obtain⟨Z9,Ka⟩:∃Z9,Z9=(dt x).M:=⟨_,rfl⟩
   obtain⟨o,bt⟩:∃o,o=(dt x).H:=⟨_,rfl⟩
   obtain⟨y,JN⟩:∃y,y=A x.D:=⟨_,rfl⟩
   rw[e5] at JP Fk;rw[JP,<-JN] at Fk;have q0:ZW wr (T r (j*6) Z)=Q (U x.e):=by have:=cJ (by rw[<-ZL.i];exact O) hm 0 (by omega) rfl;rw[e1] at this;exact this
   have q1:ZW wr (T r (j*6+1) Z)=Q (J I Z9):=by have:=cJ (by rw[<-ZL.i];exact O) hm 1 (by omega) rfl;rw[e3,<-Ka] at this;exact this
   have q2:ZW wr (T r (j*6+2) Z)=Q (U o):=by have:=cJ (by rw[<-ZL.i];exact O) hm 2 (by omega) rfl;rw[e4,<-bt] at this;exact this
   have q3:ZW wr (T r (j*6+3) Z)=Q (Y Z 0 0):=cJ (by rw[<-ZL.i];exact O) hm 3 (by omega) rfl;have q4:ZW wr (T r (j*6+4) Z)=Q (Y sa y ZT):=by have:=cJ (by rw[<-ZL.i];exact O) hm 4 (by omega) rfl;rw[JP,<-JN] at this;exact this
   have q5:ZW wr (T r (j*6+5) Z)=Q (ZF ZH):=by have:=cJ (by rw[<-ZL.i];exact O) hm 5 (by omega) rfl;rw[e2] at this;exact this
   have C:Hid (∀V,Below (z (B wr)) wr V->ZW V (T hb 2 Z)=Q (Y (Q (T r 0 Z)) ZQ cm)/\ZW V (T hb 3 Z)=Q (Y (Q (T go 0 Z)) n co)/\ZW V (T go i Z)=Q (U x.e)/\ZW V (T r (j*6) Z)=Q (U x.e)/\ZW V (T r (j*6+1) Z)=Q (J I Z9)/\ZW V (T r (j*6+2) Z)=Q (U o)/\ZW V (T r (j*6+3) Z)=Q (Y Z 0 0)/\ZW V (T r (j*6+4) Z)=Q (Y sa y ZT)/\ZW V (T r (j*6+5) Z)=Q (ZF ZH)):=λV g=>⟨(g.O (p:=(T hb 2 Z)) KP).k h2,(g.O (p:=(T hb 3 Z)) KP).k h3,(g.O (p:=(T go i Z)) Lv).k oc,(g.O (p:=(T r _ Z)) ld).k q0,(g.O (p:=(T r _ Z)) ld).k q1,(g.O (p:=(T r _ Z)) ld).k q2,(g.O (p:=(T r _ Z)) ld).k q3,(g.O (p:=(T r _ Z)) ld).k q4,(g.O (p:=(T r _ Z)) ld).k q5⟩
   have CT:Hid (∀V,Below (z (B wr)) wr V->Qw Pg 121 #[.pointer (Q (T hb 0 Z)),U x.e] V λe w'=>e=ZI (J I (j:Int))/\w'=V):=λV g=>by
    have h:=M.aa g ly;refine(vX V x.e Z8 h.c2 h.X (by rw[<-ZL.i];omega)).P λe w' ⟨he,hw⟩=>⟨?_,hw⟩
    rw[he,hf];rfl
   have HX:=ae hx;have LF:=ae Ka;have Kv:=ae bt;have Hx:=ae JN;have J0:=ae Fk;have hj0:(0:Int)<=(j:Int):=by omega
   have hjI:(j:Int)<ZQ:=by omega
   have hi0:(0:Int)<=(i:Int):=by omega
   have hiI:(i:Int)<n:=by omega
   clear ur O Fk JP hx hf hm e1 e2 e3 e4 e5 Ka bt JN;go_upto_region 5 with fail;go_cut [5] (λs wx=>s=.pointer (Q (T (z (B wr)) 0 Z))/\wx=(ZV wr (N #[U x.e,J I Z9,U o,Y Z 0 0,Y sa y ZT,ZF ZH] 188)).drew);case first =>
    clear h2 h3 oc q0 q1 q2 q3 q4 q5
    go_region_held3 (λV=>ZW V (T hb 2 Z)=Q (Y (Q (T r 0 Z)) ZQ cm)/\ZW V (T hb 3 Z)=Q (Y (Q (T go 0 Z)) n co)/\ZW V (T go i Z)=Q (U x.e)/\ZW V (T r (j*6) Z)=Q (U x.e)/\ZW V (T r (j*6+1) Z)=Q (J I Z9)/\ZW V (T r (j*6+2) Z)=Q (U o)/\ZW V (T r (j*6+3) Z)=Q (Y Z 0 0)/\ZW V (T r (j*6+4) Z)=Q (Y sa y ZT)/\ZW V (T r (j*6+5) Z)=Q (ZF ZH)) (first|exact C _ br|exact C _ br.drew|exact C _ (br.drew.alloc ly _)|exact C _ (br.alloc ly _).drew|exact C _ ((((((((BS wr).drew.alloc ly _).setCell ly _).setCell ly _).setCell ly _).setCell ly _).setCell ly _).setCell ly _)) (first
     |(go_at_call 121;refine(CT _ (by first|exact br.drew|exact a8 _ _|exact br.drew.alloc ly _)).P ?_;rintro e w5⟨rfl,rfl⟩))
    all_goals
     go_wp2_with fail;go_meet;exact⟨rfl,rfl⟩
   case rest =>
   obtain⟨rfl,rfl⟩:=hcut;have B5:=ae ((BS wr).alloc ly (N #[U x.e,J I Z9,U o,Y Z 0 0,Y sa y ZT,ZF ZH] 188)).drew;have m5:Hid ((ZV wr (N #[U x.e,J I Z9,U o,Y Z 0 0,Y sa y ZT,ZF ZH] 188)).drew.heap[z (B wr)]?=Q (N #[U x.e,J I Z9,U o,Y Z 0 0,Y sa y ZT,ZF ZH] 188 (0,0))):=gM wr _;have JK:(ZV wr (N #[U x.e,J I Z9,U o,Y Z 0 0,Y sa y ZT,ZF ZH] 188)).drew.heap.size=z (B wr)+1:=by simp[World.drew]
   clear h2 h3 oc q0 q1 q2 q3 q4 q5 C CT;generalize World.drew (World.alloc wr _)=W5 at B5 m5 JK ⊢;have p0:ZW W5 (T (z (B wr)) 0 Z)=Q (U x.e):=by simp[World.cell?,m5.i]
   obtain⟨W6,Id⟩:∃W:E,ZV W5 (N #[U x.e,J I 0,J I 0,U ⟨#[]⟩,Y Z 0 0,Y Z 0 0] 62)=W:=⟨_,rfl⟩
   obtain⟨A6,-,-⟩:=nb1 Id;have ex:=ae Id;clear Id;have B6:=ae (B5.k (A6.P B5.size));have X6:Hid (DBox W6 (z (B wr)+1) (U x.e) (J I 0) (J I 0) (U ⟨#[]⟩) (Y Z 0 0) (Y Z 0 0)):=by
    cases ex.i
    have h:=jG W5 (U x.e) (J I 0) (J I 0) (U ⟨#[]⟩) (Y Z 0 0) (Y Z 0 0) 62;rw[JK] at h;exact h
   have m6:Hid (W6.heap[z (B wr)]?=Q (N #[U x.e,J I Z9,U o,Y Z 0 0,Y sa y ZT,ZF ZH] 188 (0,0))):=by cases ex.i;exact(A6.p _ (by omega)).k m5
   have LG:z (B W6)=z (B wr)+2:=by cases ex.i;simp[JK]
   go_upto_region 7 with fail;rw[ex.i];clear ex;clear p0 B5 m5 A6 JK;have Fd:=ae (M.aa B6 ly);have Kg:=ae (B4.k (B6.P (by omega)));have C:Hid (∀V,Below (z (B W6)) W6 V->ZW V (T hb 0 Z)=Q (Y a0 S.n0 c0)/\ZW V (T hb 1 Z)=Q (Y a1 S.n1 c1)/\ZW V (T (z (B wr)) 0 Z)=Q (U x.e)):=λV g=>⟨(g.O (p:=(T hb 0 Z)) Fd.lt).k Fd.c0,(g.O (p:=(T hb 1 Z)) Fd.lt).k Fd.c1,(g.O (p:=(T (z (B wr)) 0 Z)) (by show (z (B wr))<_;omega)).k (by simp[World.cell?,m6.i])⟩
   obtain⟨ZP,hT⟩:∃ZP,ZP=eh (atI (nm1 S.f1) S.n1 x.e):=⟨_,rfl⟩
   have CT:Hid (∀V,Below (z (B W6)) W6 V->Qw Pg 28 #[ZJ #[Y a0 S.n0 c0,Y a1 S.n1 c1],U x.e] V λe w'=>e=ZI (J I ZP)/\Below (z (B V)) V w'):=λV g=>by rw[hT];exact iQ a0 S.n0 c0 a1 S.n1 c1 S.f1 x.e V (by have:=JU.bb;omega) (V1.aa (Kg.k (g.P Kg.size)) ly)
   have HT:=ae hT;clear hT
   go_region_held3 (λV=>ZW V (T hb 0 Z)=Q (Y a0 S.n0 c0)/\ZW V (T hb 1 Z)=Q (Y a1 S.n1 c1)/\ZW V (T (z (B wr)) 0 Z)=Q (U x.e)) (first|exact C _ br|exact C _ br.drew|exact C _ D7) (first
    |(go_at_call 28;refine(CT _ (by first|exact br.drew|exact a8 _ _)).P ?_;rintro e ZM⟨rfl,n8⟩;have D7:Hid (Below (z (B W6)) W6 ZM):=⟨n8.os,n8.tape,n8.output,n8.size,n8.p⟩;clear n8))
   have B7:=ae (B6.k (D7.P B6.size));have X7:=ae (X6.aa D7 X6.lt);have m7:=ae ((D7.p _ (ah m6)).k m6);have Kf:z (B wr)+2<=z (B ZM):=by have:=D7.size;omega
   have k7:=ae ((B7.p _ (ah k4)).k k4);have KJ:=ae ((B7.p _ (ah fd)).k fd);have n9:=ae (M.aa B7 ly);have JR:=ae (B4.k (B7.P (by omega)));have Kb:=I5 HX.i;have Lb:=ae (KZ.W x Kb);clear D7 C CT X6 m6 Fd Kg B6 LG Kb;go_upto_if 46 with fail;go_cut [8,9] (λ_ _ wx=>∃(aa al:O_) (na nl ca H:Nat),Hid (DBox wx (z (B wr)+1) (U x.e) (J I x.L) (J I x.M) (U x.H) (Y aa na ca) (Y al nl H))/\Hid (DSub wx (z (B wr)) (bo S f x,Y aa na ca,Y al nl H))/\Hid (Below (z (B wr)) wr wx));case first =>
    rcases Lb.L with⟨hk,sm,hlk,si,Ku,JX⟩|⟨hk,sm,JX,hlk,J5,Bk⟩|⟨hk,J5,Bk⟩
    rotate_left 2
    ·have HK:=ae hk;have Kc:dt x=⟨x.M,x.H,[]⟩:=by unfold dt;rw[eI (by omega)]
     have JT:Hid (o=x.H/\Z9=x.M):=⟨by rw[Kv.i,Kc],by rw[LF.i,Kc]⟩
     have hns2:y<=200:=by rw[Hx.i];exact Lb.D
     have Kq:=(bu Bk).1;have Ko:ZP=(x.tg:Int):=by rw[HT.i,Bk];rfl
     have KM:bP S x=(S.f1 x.tg).h:=by unfold bP;rw[eT hk]
     obtain⟨X,JV⟩:∃X,X=(S.f1 x.tg).h:=⟨_,rfl⟩
     have Lr:Hid (bP S x=X):=KM.k JV.c;have hn4m:X<=1048576:=by rw[JV];exact Lu x.tg Kq
     have hn41:1<=X:=by obtain⟨_,hv,_⟩:=bJ (JU.q x.tg Kq);omega
     obtain⟨tb,tf,LA,bt⟩:=V1.resolve_left (by omega);subst Ko LA;obtain⟨-,ia,ic,ro,Kt⟩:=bt.2 x.tg Kq;have J9:=bt.1;obtain⟨ib,io,rfl,J8⟩:=Kt.resolve_left (by omega);rw[<-JV] at ro J8;have Lz:=ae J8;have Ks:=ae ro;clear hk Kc KM JV J5 Bk bt Kt J8 ro;have q1:ZW ZM (T (z (B wr)) 1 Z)=Q (J I Z9):=by simp[World.cell?,m7.i]
     have q2:ZW ZM (T (z (B wr)) 2 Z)=Q (U o):=by simp[World.cell?,m7.i]
     obtain⟨d1,Lc⟩:=X7.c1;obtain⟨d2,LH⟩:=X7.c2;obtain⟨d3,KN⟩:=X7.c3;have La:=X7.lt;have htg0:(0:Int)<=(x.tg:Int):=by omega
     have X9:=ae (((X7.set1 (J I 3)).set2 (J I Z9)).set3 (U o));have m9:Hid ((ZU (ZU (ZU ZM (T (z (B wr)+1) 1 Z) (J I 3)) (T (z (B wr)+1) 2 Z) (J I Z9)) (T (z (B wr)+1) 3 Z) (U o)).heap[z (B wr)]?=Q (N #[U x.e,J I Z9,U o,Y Z 0 0,Y sa y ZT,ZF ZH] 188 (0,0))):=(qh _ _ _ _ (show (z (B wr))≠z (B wr)+1 by omega)).k ((qh _ _ _ _ (show (z (B wr))≠z (B wr)+1 by omega)).k ((qh _ _ _ _ (show (z (B wr))≠z (B wr)+1 by omega)).k m7.i));have B9:=ae (((B7.setCell (p:=(T (z (B wr)+1) 1 Z)) (BV _) (J I 3)).setCell (p:=(T (z (B wr)+1) 2 Z)) (BV _) (J I Z9)).setCell (p:=(T (z (B wr)+1) 3 Z)) (BV _) (U o));have Kw:z (B wr)+2<=z (B (ZU (ZU (ZU ZM (T (z (B wr)+1) 1 Z) (J I 3)) (T (z (B wr)+1) 2 Z) (J I Z9)) (T (z (B wr)+1) 3 Z) (U o))):=by simpa using Kf
     go_upto_region 12 with fail;generalize World.setCell (World.setCell (World.setCell ZM _ _) _ _) _ _=W9 at X9 m9 B9 Kw ⊢;clear d1 Lc d2 LH d3 KN q1 q2 La X7 m7 B7 k7 KJ n9 JR Kf;have JL:=ae (B4.k (B9.P (by omega)));have Ke:=ae (M.aa B9 ly);have LM:=Ke.c1;have Ld:=Ke.lt;have tc:=(JL.O (p:=(T tb (tf+x.tg*2+1) Z)) J9).k Ks;have Ll:tb<z (B W9):=lj J9 JL.size;have htgI:(x.tg:Int)<(S.n1:Int):=by omega
     go_wp2_with fail;refine(je ib io X ic (S.f1 x.tg).q W9 (by omega) (Lz.aa JL ly)).P ?_;rintro e KQ⟨g4,c4,rfl,Ki,th⟩;have JO:=ae (X9.aa th X9.lt);obtain⟨d4,Lx⟩:=JO.c4;have Kn:=ae (JO.set4 (Y (Q (T g4 0 Z)) X c4));have J6:Hid ((ZU KQ (T (z (B wr)+1) 4 Z) (Y (Q (T g4 0 Z)) X c4)).heap[z (B wr)]?=Q (N #[U x.e,J I Z9,U o,Y Z 0 0,Y sa y ZT,ZF ZH] 188 (0,0))):=(qh _ _ _ _ (show (z (B wr))≠z (B wr)+1 by omega)).k ((th.p _ (ah m9)).k m9);have J4:=ae (aH (R:=z (B wr)+1) (j:=4) (aE Ki (show (z (B wr))+2<=z (B W9) by omega)) (by omega) (Y (Q (T g4 0 Z)) X c4));have Kh:=ae ((B9.k (th.P B9.size)).setCell (p:=(T (z (B wr)+1) 4 Z)) (BV _) (Y (Q (T g4 0 Z)) X c4));have Kr:=JO.lt;clear Ki th tc LM;go_wp2;generalize World.setCell KQ _ _=W11 at Kn J6 J4 Kh ⊢;clear d4 Lx JO Kr X9 m9 B9 JL Ke Ld Ll Kw;obtain⟨t,Lt⟩:∃t,t=wr:=⟨_,rfl⟩
     subst Lt;go_loopw [8] (λv wq=>∃(k:Nat) (al:O_) (H:Nat),k<=y/\v=J I k/\LkI S f x Z9 o sa y ZT g4 X c4 t al k H wq) (λv _=>y - (intOf v).toNat);case atStart=>exact⟨0,Z,0,by omega,rfl,Kn,J6,J4,CP _ _ _ _,Kh⟩
     case round =>
      clear Kn J6 J4 Kh;obtain⟨k,al,H,hk,rfl,JI,J7,JZ,Kl,DQ⟩:=hrel;have m4:ZW wr (T (z (B t)) 4 Z)=Q (Y sa y ZT):=by simp[World.cell?,J7.i]
      have ml:=ah J7.i;have hz12:z (B t)+2<=z (B wr):=JI.lt;by_cases hlk:k<y
      ·obtain⟨l,hl⟩:∃l,x.D[k]?=Q l:=⟨_,gq (by rw[<-Hx.i];exact hlk)⟩
       obtain⟨K,sc',e⟩:=dr J0 (by omega);simp only[IN,TX] at e;obtain⟨rfl,rfl⟩:=e;have Kx:=(cV J0).2;have sn:∀j,j<3->∀u,[Value.string l.e,ZF l.ask,ZF l.has][j]?=Q u->ZW wr (T K (k*3+j) Z)=Q u:=λj hj u hu=>(DQ.O (p:=(T K (k*3+j) Z)) Kx).k (Dt (by have h:=J0.i;rw[Hx.i] at h;exact h) hl j hj hu);have f0:=sn 0 (by omega) _ rfl;have f1:=sn 1 (by omega) _ rfl;have f2:=sn 2 (by omega) _ rfl;rw[show k*3+0=k*3 by omega] at f0;have JG:K<z (B wr):=lj Kx DQ.size;have HL:=ae hl;have C:Hid (∀V,Below (z (B wr)) wr V->ZW V (T (z (B t)) 4 Z)=Q (Y (Q (T K 0 Z)) y ZT)/\ZW V (T K (k*3) Z)=Q (U l.e)/\ZW V (T K (k*3+1) Z)=Q (ZF l.ask)/\ZW V (T K (k*3+2) Z)=Q (ZF l.has)):=λV g=>⟨(g.O (p:=(T (z (B t)) 4 Z)) ml).k m4,(g.O (p:=(T K _ Z)) JG).k f0,(g.O (p:=(T K _ Z)) JG).k f1,(g.O (p:=(T K _ Z)) JG).k f2⟩
       have hk0:(0:Int)<=(k:Int):=by omega
       have hkI:(k:Int)<y:=by omega
       clear sn hl;go_upto_region 16 with fail;go_cut [9] (λs wx=>s=.pointer (Q (T (z (B wr)) 0 Z))/\wx=(ZV wr (N #[U l.e,ZF l.ask,ZF l.has,J I 0] 65)).drew);case first =>
        clear m4 f0 f1 f2;go_region_held3 (λV=>ZW V (T (z (B t)) 4 Z)=Q (Y (Q (T K 0 Z)) y ZT)/\ZW V (T K (k*3) Z)=Q (U l.e)/\ZW V (T K (k*3+1) Z)=Q (ZF l.ask)/\ZW V (T K (k*3+2) Z)=Q (ZF l.has)) (first|exact C _ br|exact C _ br.drew|exact C _ (br.drew.alloc ly _)|exact C _ (br.alloc ly _).drew|exact C _ ((((((BS wr).drew.alloc ly _).setCell ly _).setCell ly _).setCell ly _).setCell ly _)) (fail);all_goals
         go_wp2_with fail;go_meet;exact⟨rfl,rfl⟩
       case rest =>
       obtain⟨rfl,rfl⟩:=hcut;have mv:=ae ((BS wr).alloc ly (N #[U l.e,ZF l.ask,ZF l.has,J I 0] 65)).drew;have ZN:Hid ((ZV wr (N #[U l.e,ZF l.ask,ZF l.has,J I 0] 65)).drew.heap[z (B wr)]?=Q (N #[U l.e,ZF l.ask,ZF l.has,J I 0] 65 (0,0))):=gM wr _;clear m4 f0 f1 f2 C;generalize World.drew (World.alloc wr _)=aq at mv ZN ⊢;have JH:=ae (JI.aa mv JI.lt);have JW:=ae ((mv.p _ ml).k J7);have Kj:=ae (J_ JZ mv ly);have Kp:=ae (J_ Kl mv ly);have qr:=ae (DQ.k (mv.P DQ.size));have k1:ZW aq (T (z (B wr)) 1 Z)=Q (ZF l.ask):=by simp[World.cell?,ZN.i]
       go_upto_if 94 with fail;clear k1;go_cut [] (λwx=>∃q:Int,Hid (du (lkD f l)=[U l.e,ZF l.ask,ZF l.has,J I q])/\Hid (wx.heap[z (B wr)]?=Q (N #[U l.e,ZF l.ask,ZF l.has,J I q] 65 (0,0)))/\LkI S f x Z9 o (Q (T K 0 Z)) y ZT g4 X c4 t al k H wx);case first =>
        cases hask:l.ask with
        |false =>go_wp2;go_meet;exact⟨0,by show _=_;simp[du,lkD,hask],ZN,JH,JW,Kj,Kp,qr⟩
        |true =>
         obtain⟨q,hq⟩:∃q:Int,q=((iw f l.e:Nat):Int):=⟨_,rfl⟩
         have KI:=ae ((qr.p _ (ah k4)).k k4);have ac:ZW aq (T (z (B w)+1) 0 Z)=Q (Y P i c5):=by simp[World.cell?,KI.i]
         have acl:=ah KI.i;have LQ:ZW aq (T (z (B wr)) 0 Z)=Q (U l.e):=by simp[World.cell?,ZN.i]
         have CA:Hid (Qw Pg 122 #[ZJ #[Y P i c5],U l.e] aq λe w'=>e=ZI (J I q)/\Below (z (B aq)) aq w'):=by
          have hd:SlDeed aq P i (dF (R.map (·.1))):=by have h:=D4.aa qr.i ly;rw[<-GS] at h ⊢;exact h.bd
          have h:=DU P i c5 (dF (R.map (·.1))) l.e aq (by omega) hd;rw[Gr KZ.i HX.i (I5 HL.i) hask Kk.i,<-hq] at h;exact h
         have HQ:=ae hq;clear hq;go_wp2_with fail;refine CA.P ?_;rintro e JS⟨rfl,ZO⟩;have Fm:=(ZO.p _ (ah ZN)).k ZN;have q3:ZW JS (T (z (B wr)) 3 Z)=Q (J I 0):=by simp[World.cell?,Fm]
         have qf3:ZX JS (T (z (B wr)) 3 Z)=ZA:=by simp[World.frozen?,Fm]
         have ql3:=ah Fm;have G:Hid ((ZU JS (T (z (B wr)) 3 Z) (J I q)).heap[z (B wr)]?=Q (N #[U l.e,ZF l.ask,ZF l.has,J I q] 65 (0,0))):=aw Fm _;have la:=ae ((JH.aa ZO JH.lt).far (p:=(T (z (B wr)) 3 Z)) (by show (z (B wr))≠z (B t)+1;omega) (J I q));have At:Hid ((ZU JS (T (z (B wr)) 3 Z) (J I q)).heap[z (B t)]?=Q (N #[U x.e,J I Z9,U o,Y Z 0 0,Y (Q (T K 0 Z)) y ZT,ZF ZH] 188 (0,0))):=(qh _ _ _ _ (show (z (B t))≠z (B wr) by omega)).k ((ZO.p _ (ah JW)).k JW);have JJ:=ae (aB (J_ Kj ZO ly) (b:=z (B wr)) (λe=>by have:=(JZ.lt _ e).2;omega) 3 (J I q));have JQ:=ae (aB (J_ Kp ZO ly) (b:=z (B wr)) (λe=>by have:=(Kl.lt _ e).2;omega) 3 (J I q));have DE:=ae ((qr.k (ZO.P qr.size)).setCell (p:=(T (z (B wr)) 3 Z)) (by show (z (B t))<=z (B wr);omega) (J I q));clear Fm ZO ac LQ;go_wp2;go_meet;exact⟨q,by show _=_;simp[du,lkD,hask,HQ.i],G,la,At,JJ,JQ,DE⟩
       case rest =>
       obtain⟨q,Ls,G,la,At,JJ,JQ,DE⟩:=hcut;clear ZN JH JW Kj Kp qr;generalize wc=ZS at G la At JJ JQ DE ⊢;have l0:ZW ZS (T (z (B wr)) 0 Z)=Q (U l.e):=by simp[World.cell?,G.i]
       have l1:ZW ZS (T (z (B wr)) 1 Z)=Q (ZF l.ask):=by simp[World.cell?,G.i]
       have l2:ZW ZS (T (z (B wr)) 2 Z)=Q (ZF l.has):=by simp[World.cell?,G.i]
       have l3:ZW ZS (T (z (B wr)) 3 Z)=Q (J I q):=by simp[World.cell?,G.i]
       have ll:=ah G.i;obtain⟨e5,ef5⟩:=la.c5;have AL:=ae ((BS ZS).alloc ly (N #[U l.e,ZF l.ask,ZF l.has,J I q] 65));have XA:=ae (la.aa AL la.lt);have mA:=ae ((AL.p _ (ah At)).k At);have OA:=ae (J_ JJ AL ly);have PA:=ae (J_ JQ AL ly);have BA:=ae (DE.k (AL.P DE.size));have Lp:z (B (ZV ZS (N #[U l.e,ZF l.ask,ZF l.has,J I q] 65)))=z (B ZS)+1:=by simp
       have hzW:z (B t)+2<=z (B ZS):=la.lt;go_wp2_with (at_builtin;refine DN _ rfl (.tmp 101) (.tmp 103) 60 rfl (z (B t)+2) 65 il (ZJ #[U ⟨#[]⟩,ZF ZA,ZF ZA,J I 0]) 4 32 SV LE Li Lg Lh rfl (by decide) (Y al k H) k (lkV f (x.D.take k)) (by simp[Act.eval]) PA.i (T (z (B ZS)) 0 Z) 1 1 [U l.e,ZF l.ask,ZF l.has,J I q] (by simp[Act.eval]) rfl (rU ZS _ _ _ _ _) (by simp[Value.oneCell']) (by unfold maxLen;omega) (by omega) (by omega) ?_;intro v' wz ZR D _;obtain⟨az,cz,rfl⟩:=bM ZR;rw[<-Ls.i,<-pN f x.D HL.i] at ZR;have PZ:=ae ZR;have GZ:=ae D;have XZ:=ae (XA.grown PA D (eL _));obtain⟨z5,zf5⟩:=XZ.c5;have zl:=XZ.lt;clear ZR D);have XY:=ae (XZ.set5 (Y az (k+1) cz));have mY:Hid ((ZU wz (T (z (B t)+1) 5 Z) (Y az (k+1) cz)).heap[z (B t)]?=Q (N #[U x.e,J I Z9,U o,Y Z 0 0,Y (Q (T K 0 Z)) y ZT,ZF ZH] 188 (0,0))):=(qh _ _ _ _ (show (z (B t))≠z (B t)+1 by omega)).k ((GZ.p _ (ah mA) (λe=>by have:=(PA.lt _ e.c).1;omega)).k mA);have OY:=ae (aH (R:=z (B t)+1) (j:=5) (og OA PA GZ (by decide)) (by omega) (Y az (k+1) cz));have PY:=ae (aH (R:=z (B t)+1) (j:=5) PZ (by omega) (Y az (k+1) cz));have BY:=ae ((bg BA GZ (by omega) (λj e=>by have:=(PA.lt j e).1;omega)).setCell (p:=(T (z (B t)+1) 5 Z)) (BV _) (Y az (k+1) cz));exact⟨⟨k+1,az,cz,by omega,by go_num,XY,mY,OY,PY,BY⟩,by simp[intOf];omega⟩
      ·have e:k=y:=by omega
       subst e;have XT:Hid (DBox wr (z (B t)+1) (U x.e) (J I x.L) (J I x.M) (U x.H) (Y (Q (T g4 0 Z)) X c4) (Y al k H)):=by show DBox _ _ _ _ _ _ _ _;rw[HK.i,<-JT.1,<-JT.2];exact JI
       have ST:Hid (DSub wr (z (B t)) (bo S f x,Y (Q (T g4 0 Z)) X c4,Y al k H)):=by
        refine⟨?_,?_⟩;{show World.ownsRow wr (z (B t)) 102 3 (Y (Q (T g4 0 Z)) X c4) (bP S x) (bZ (S.f1 x.tg).q (bP S x));rw[Lr.i];exact aE JZ (by omega)};{show World.ownsRow wr (z (B t)) 65 4 (Y al k H) (A x.D) (cy (lkF f x.D) (A x.D));rw[yC,<-Hx.i];have h:=Kl.i;rw[NU (by rw[<-Hx.i];exact p7 _)] at h;exact aE h (by omega)}
       go_wp2;go_meet;exact⟨_,_,_,_,_,_,XT,ST,DQ⟩
    all_goals
     obtain⟨ZZ,hz⟩:∃ZZ,ZZ=eh (atI (nm0 S.f0) S.n0 x.e):=⟨_,rfl⟩
     have HK:=ae hk;have Kz:=ae sm;have LN:=ae JX;have C:Hid (∀V,Below (z (B ZM)) ZM V->ZW V (T hb 0 Z)=Q (Y a0 S.n0 c0)/\ZW V (T hb 1 Z)=Q (Y a1 S.n1 c1)/\ZW V (T (z (B wr)) 0 Z)=Q (U x.e)):=λV g=>⟨(g.O (p:=(T hb 0 Z)) n9.lt).k n9.c0,(g.O (p:=(T hb 1 Z)) n9.lt).k n9.c1,(g.O (p:=(T (z (B wr)) 0 Z)) (by show (z (B wr))<_;omega)).k (by simp[World.cell?,m7.i])⟩
     have CT:Hid (∀V,Below (z (B ZM)) ZM V->Qw Pg 27 #[ZJ #[Y a0 S.n0 c0,Y a1 S.n1 c1],U x.e] V λe w'=>e=ZI (J I ZZ)/\Below (z (B V)) V w'):=λV g=>by rw[hz];exact iP a0 S.n0 c0 a1 S.n1 c1 S.f0 x.e V (by have:=JU.bb;omega) (V0.aa (JR.k (g.P JR.size)) ly)
     have HZ:=ae hz;have Ko:ZP=-1:=by rw[HT.i,show atI (nm1 S.f1) S.n1 x.e=Z by first|exact Bk|exact oZ JU.i Ku];rfl
     subst Ko;clear hk sm JX hz;go_wp2_with fail
     go_region_held3 (λV=>ZW V (T hb 0 Z)=Q (Y a0 S.n0 c0)/\ZW V (T hb 1 Z)=Q (Y a1 S.n1 c1)/\ZW V (T (z (B wr)) 0 Z)=Q (U x.e)) (first|exact C _ br|exact C _ br.drew|exact C _ D8) (first
      |(go_at_call 27;refine(CT _ (by first|exact br.drew|exact a8 _ _)).P ?_;rintro e w8⟨rfl,ph⟩;have D8:Hid (Below (z (B ZM)) ZM w8):=⟨ph.os,ph.tape,ph.output,ph.size,ph.p⟩;clear ph))
     have X8:=ae (X7.aa D8 X7.lt);have B8:=ae (B7.k (D8.P B7.size));obtain⟨d1,Lc⟩:=X8.c1;have La:=X8.lt
    ·obtain rfl:ZZ=(si:Int):=by rw[HZ.i,Ku];rfl
     have JT:Hid (o=x.H):=by show o=x.H;rw[Kv.i];unfold dt;rw[eI (by rw[HK.i];decide)]
     have hsi0:(0:Int)<=(si:Int):=by omega
     obtain⟨d3,KN⟩:=X8.c3;have m8:=(D8.p _ (ah m7)).k m7;have q2:ZW w8 (T (z (B wr)) 2 Z)=Q (U o):=by simp[World.cell?,m8]
     have BT:=ae ((B8.setCell (p:=(T (z (B wr)+1) 1 Z)) (BV _) (J I 1)).setCell (p:=(T (z (B wr)+1) 3 Z)) (BV _) (U o));clear m8;go_wp2;go_meet;exact⟨Z,Z,0,0,0,0,(by show DBox _ _ _ _ _ _ _ _;rw[HK.i,Kz.i,<-JT.i];exact(X8.set1 _).set3 _),wB (by unfold bP;rw[eI (by rw[HK.i];decide)]) hlk _ _,BT⟩
    ·obtain rfl:ZZ=-1:=by rw[HZ.i,J5];rfl
     have BT:=ae (B8.setCell (p:=(T (z (B wr)+1) 1 Z)) (BV _) (J I 2));go_wp2;go_meet;exact⟨Z,Z,0,0,0,0,(by show DBox _ _ _ _ _ _ _ _;rw[HK.i,Kz.i,LN.i];exact X8.set1 _),wB (by unfold bP;rw[eI (by rw[HK.i];decide)]) hlk _ _,BT⟩
   case rest =>
   obtain⟨aa,al,na,nl,ca,H,XT,ST,BT⟩:=hcut;have kT:=ae ((BT.p _ (ah k4)).k k4);have Km:=ae ((BT.p _ (ah fd)).k fd);clear X7 m7 k7 KJ n9 JR B7 Kf;generalize wc=W8 at XT ST BT kT Km ⊢;obtain⟨t0,_⟩:=XT.c0;obtain⟨t1,_⟩:=XT.c1;obtain⟨t2,_⟩:=XT.c2;obtain⟨t3,_⟩:=XT.c3;obtain⟨t4,_⟩:=XT.c4;obtain⟨t5,_⟩:=XT.c5;have kc:ZW W8 (T (z (B w)+1) 0 Z)=Q (Y P i c5):=by simp[World.cell?,kT.i]
   have AL:=ae ((BS W8).alloc ly (N #[U x.e,J I x.L,J I x.M,U x.H,Y aa na ca,Y al nl H] 62));have DA:=ae (D4.aa (BT.k (AL.P BT.size)) ly);have SA:=ae (ST.aa AL ly);have kA:=ae ((AL.p _ (ah kT)).k kT);have KO:=ae ((AL.p _ (ah Km)).k Km);have BA:=ae (B4.k ((BT.k (AL.P BT.size)).P (by omega)));have OW:Hid (World.ownsRow (ZV W8 (N #[U x.e,J I x.L,J I x.M,U x.H,Y aa na ca,Y al nl H] 62)) (z (B w)+2) 62 6 (Y P i c5) i (R.flatMap ddV)):=by have h:=DA.u;rw[GS] at h;exact h
   have JY:Hid (∀j,(Value.slice P i c5).ownBlock=Q j->z (B w)+2<=j):=λj e=>(OW.lt j e).1;have Lp:z (B (ZV W8 (N #[U x.e,J I x.L,J I x.M,U x.H,Y aa na ca,Y al nl H] 62)))=z (B W8)+1:=by simp
   have hzT:=BT.size;go_wp2_with (at_builtin;refine DN _ rfl (.tmp 121) (.tmp 123) 23 rfl (z (B w)+2) 62 LB (ZJ #[U ⟨#[]⟩,J I 0,J I 0,U ⟨#[]⟩,Y Z 0 0,Y Z 0 0]) 6 96 QB LP Ln Lj Lm rfl (by decide) (Y P i c5) i (R.flatMap ddV) (by simp[Act.eval]) OW.i (T (z (B W8)) 0 Z) 1 1 [U x.e,J I x.L,J I x.M,U x.H,Y aa na ca,Y al nl H] (by simp[Act.eval]) rfl (Ds W8 _ _ _ _ _ _ _) (by simp[Value.oneCell']) (by unfold maxLen;omega) (by omega) (by omega) ?_;intro v' w9 ZR D _;obtain⟨a7,c7,rfl⟩:=bM ZR;have O9:=ae ZR;have G9:=ae D;have k9:=ae ((D.p _ (ah kA) (λe=>by have:=JY.i _ e.c;omega)).k kA);have g9:ZW w9 (T (z (B w)+1) 0 Z)=Q (Y P i c5):=(by simp[World.cell?,k9.i]);have f9:ZX w9 (T (z (B w)+1) 0 Z)=ZA:=(by simp[World.frozen?,k9.i]);have l9:=ah k9.i;clear ZR D);have D9:Hid (DRow w9 (z (B w)+2) (Y a7 (i+1) c7) (R++[(bo S f x,Y aa na ca,Y al nl H)])):=DRow.more D4 DA (by omega) SA (by rw[GS];exact O9) G9;have LD:=ae ((G9.p _ (ah KO) (λe=>by have:=JY.i _ e.c;omega)).k KO);have B9:=ae (bg BA G9 (by omega) (λj e=>by have:=JY.i j e;omega));have LL:=ae (D9.set (p:=(T (z (B w)+1) 0 Z)) (e:=25) (.inl (eL _)) (Y a7 (i+1) c7));have LC:Hid ((ZU w9 (T (z (B w)+1) 0 Z) (Y a7 (i+1) c7)).heap[z (B w)+1]?=Q (N #[Y a7 (i+1) c7] 25 (0,0))):=aw k9 _;have Lf:Hid ((ZU w9 (T (z (B w)+1) 0 Z) (Y a7 (i+1) c7)).heap[z (B w)]?=Q (N #[Y Z 0 0] 25 (0,0))):=(qh _ _ _ _ (show (z (B w))≠z (B w)+1 by omega)).k LD.i;have Ly:=ae (B9.setCell (p:=(T (z (B w)+1) 0 Z)) (BV _) (Y a7 (i+1) c7));refine⟨⟨i+1,a7,c7,_,by omega,by go_num,by rw[cM,GS];rfl,?_,LL,LC,Lf,Ly⟩,by simp[intOf];omega⟩;show(R++[((bo S f x,Y aa na ca,Y al nl H):DR)]).map (·.1)=_;rw[ND,Kk.i,V4,HX.i];simp
  ·have e:i=n:=by omega
   subst e;have Lq:ZW wr (T (z (B w)) 0 Z)=Q (Y Z 0 0):=by simp[World.cell?,fd.i]
   have rf0:ZX wr (T (z (B w)) 0 Z)=ZA:=by simp[World.frozen?,fd.i]
   have rl0:=ah fd.i;have ac0:ZW wr (T (z (B w)+1) 0 Z)=Q (Y P i c5):=by simp[World.cell?,k4.i]
   have al0:=ah k4.i;go_wp2;refine bp (v:=ZJ #[Y P i c5]) (by simp[results,results80,go_sem,Lq]) rfl ?_;subst GS;refine⟨P,c5,R,rfl,?_,?_,?_⟩;{exact(D4.set (p:=(T (z (B w)) 0 Z)) (e:=25) (.inl (show (z (B w))<z (B w)+2 by omega)) _).P (by omega)};{rw[Kk.i,NU (by rw[<-HN.i];exact p7 _)];rfl};{exact B4.setCell (p:=(T (z (B w)) 0 Z)) ly _}
end
def wD (w:E)(S:xl)(b:List k_ × jj)(e:Ending)(f:E):Prop:=∃a c R g,e=ZI (.tuple #[ZJ #[Y a (A R) c],g])/\DRow f (z (B w)) (Y a (A R) c) R/\R.map (·.1)=bk S b.1/\oJ w f b.2 g/\Below (z (B w)) w f
section
variable {S:xl}{a0 a1:O_}{c0 c1:Nat}
def wE (w:E)(nm:F_)(t:Qx w a0 S.n0 S.f0)(u:Qq w a1 S.n1 S.f1)(hn0:S.n0<=1048576)(hn1:S.n1<=1048576)(q:∀i,i<S.n1->aP (S.f1 i))(G:∀i,i<S.n1->∀j,j<(S.f1 i).h->((S.f1 i).q j).s.size<=maxLen)(m:¬ (aR S.n0 S.f0 S.n1 S.f1=0/\aA nm=ZH)):Qw Pg 49 #[ZJ #[Y a0 S.n0 c0,Y a1 S.n1 c1],U nm] w λe K=>wD w S ([],⟨9,⟨#[]⟩,[]⟩) e K:=by
 have y:=ae (λ(o:E) (b:Hid (Below (z (B w)) w o))=>eK a0 S.n0 c0 S.f0 a1 S.n1 c1 S.f1 o (by omega) (by omega) (t.aa b ly) (u.aa b ly) q G);obtain⟨ZZ,x⟩:∃ZZ,ZZ=aR S.n0 S.f0 S.n1 S.f1:=⟨_,rfl⟩
 rw[<-x] at y m;have Z8:=ae m;clear t u q G x m hn0 hn1;go_enter func49,ntmps49;go_wp2_with fail;generalize ZT:World.alloc (World.alloc (World.alloc w _) _) _=o;obtain⟨b,L,l,f,-⟩:=nb3 ZT;replace f:Hid (o.heap[z (B w)+1+1]?=_):=f;clear ZT;refine(y o b).P ?_;clear y;rintro e D⟨rfl,g⟩;replace b:=ae (b.k (g.P b.size));replace l:=ae ((g.p _ (ah l)).k l);replace f:=ae ((g.p _ (ah f)).k f);clear g L;by_cases ZS:ZZ=0;case' pos =>
  have C:Hid (aA nm=ZA):=by
   cases h:aA nm with
   |false=>rfl
   |true=>exact absurd ⟨ZS,h⟩ Z8
  subst ZS;go_wp2_with fail;refine(dl nm D).P ?_;rintro e Z9⟨H,g⟩;rw[C.i] at H;subst H;replace b:=ae (b.k (g.P b.size));replace l:=ae ((g.p _ (ah l)).k l);replace f:=ae ((g.p _ (ah f)).k f);clear g
 case' neg =>
  obtain⟨Z9,ZQ⟩:∃v,v=D:=⟨_,rfl⟩
  subst ZQ
 all_goals
  have M:=b;have n:=l.i;obtain⟨rl,r0,r1,ZR,r⟩:=bR f.i;have rf0:=r 0;have rf1:=r 1;have rf2:=r 2;have O:ZW Z9 (T (z (B w)+1) 0 Z)=Q (Y Z 0 0):=by simp[World.cell?,n]
  have pf0:ZX Z9 (T (z (B w)+1) 0 Z)=ZA:=by simp[World.frozen?,n]
  have pl:=ah n;clear r n l f;go_wp2_with fail;refine bp (v:=.tuple #[ZJ #[Y Z 0 0],ZJ #[J I 9,U ⟨#[]⟩,Y Z 0 0]]) (by simp[results,results49,go_sem,O,r0,r1,ZR]) rfl ⟨Z,0,[],_,rfl,jK _ _,rfl,kw _ _ _ _,?_⟩;exact(((M.setCell (p:=(T (z (B w)+1) 0 Z)) (BV _) _).setCell (p:=(T (z (B w)+1+1) 0 Z)) (by show (z (B w))<=z (B w)+1+1;omega) _).setCell (p:=(T (z (B w)+1+1) 1 Z)) (by show (z (B w))<=z (B w)+1+1;omega) _).setCell (p:=(T (z (B w)+1+1) 2 Z)) (by show (z (B w))<=z (B w)+1+1;omega) _
def xJ (w:E)(nm:F_)(la:Qx w a0 S.n0 S.f0)(ld:Qq w a1 S.n1 S.f1)(hn0:S.n0<=1048576)(hn1:S.n1<=1048576)(ZN:∀i,i<S.n1->aP (S.f1 i))(hs:∀i,i<S.n1->∀j,j<(S.f1 i).h->((S.f1 i).q j).s.size<=maxLen)(h1:aR S.n0 S.f0 S.n1 S.f1=0)(h2:aA nm=ZH):Qw Pg 49 #[ZJ #[Y a0 S.n0 c0,Y a1 S.n1 c1],U nm] w λe w'=>wD w S (bE S nm) e w':=by
 have HC:=ae (λ(W0:E) (A0:Hid (Below (z (B w)) w W0))=>eK a0 S.n0 c0 S.f0 a1 S.n1 c1 S.f1 W0 (by omega) (by omega) (la.aa A0 ly) (ld.aa A0 ly) ZN hs);have V0:=ae la;have V1:=ae ld;have JK:=ae ZN;have Bk:=ae (SpcOk.of h1);have H1:=ae h1;have H2:=ae h2;rw[h1] at HC;obtain⟨bb,ZS⟩:∃bb,bb=bE S nm:=⟨_,rfl⟩
 obtain⟨mv,o,-⟩:=mh S nm;rw[<-ZS] at mv o ⊢;unfold bE at ZS;rw[eT ⟨h1,h2⟩] at ZS;have n8:=ae ZS;have JN:=ae mv;have Fm:=ae o;clear la ld ZN hs hn0 hn1 h1 h2 ZS mv o;go_enter func49,ntmps49;go_wp2_with fail;generalize hW:World.alloc (World.alloc (World.alloc w _) _) _=W0;obtain⟨A0,kS,kA,kR,-⟩:=nb3 hW;replace kR:Hid (W0.heap[z (B w)+1+1]?=_):=kR;clear hW;refine(HC W0 A0).P ?_;clear HC;rintro e w1⟨rfl,m⟩;have B1:=ae (A0.k (m.P A0.size));have At:=ae ((m.p _ (ah kA)).k kA);have sm:=ae ((m.p _ (ah kR)).k kR);have Fd:=ae ((m.p _ (ah kS)).k kS);clear m;go_wp2_with fail;refine(dl nm w1).P ?_;rintro e w2⟨he,m⟩;rw[H2.i] at he;subst he;have B2:=ae (B1.k (m.P B1.size));have ro:=ae ((m.p _ (ah At)).k At);have DE:=ae ((m.p _ (ah sm)).k sm);have aq:=ae ((m.p _ (ah Fd)).k Fd);have hsl:z (B w)<z (B w2):=ah aq.i;have q0:ZW w2 (T (z (B w)) 0 Z)=Q (Y a0 S.n0 c0):=by simp[World.cell?,aq.i]
 have q1:ZW w2 (T (z (B w)) 1 Z)=Q (Y a1 S.n1 c1):=by simp[World.cell?,aq.i]
 clear m;go_wp2_with fail;refine(xH w2 ⟨V0.aa B2 ly,V1.aa B2 ly,Bk⟩ nm H2).P ?_;rintro e f⟨hb,rfl,g,m⟩;have B3:=ae (B2.k (m.P B2.size));have u:=ae ((m.p _ (ah ro)).k ro);have q:=ae ((m.p _ (ah DE)).k DE);clear q0 q1 m;have P:z (B w)<=z (B f):=B3.size;have C:=xI S 60 [] [] nm;rcases hl:aT S 60 [] [] nm with⟨y,x⟩|c|d
 ·rw[hl] at g;obtain⟨r,n⟩:∃r,r=dt x:=⟨_,rfl⟩
  have e:bb=(y,r):=by rw[n8.i,hl,n]
  subst e;obtain⟨L,md,or,st,l,DQ,ph,th,hrel⟩:=g;obtain⟨M,b0,b1,b2,b3,-,b5,b6,b7,b8,-⟩:=l.y;have JO:Hid (ShAt (z (B w2)) f hb (Y a0 S.n0 c0) (Y a1 S.n1 c1) md or L y):=⟨M,b0,b1,b2,b3,DQ,ph,th⟩
  have GS:=ae hrel;have ex:r.R=[]:=by rw[n];unfold dt;split<;>rfl
  rw[<-n] at b5 b6;have bt:=ae ex;have SQ:Hid (∀V:E,V.heap[hb]?=f.heap[hb]?->ZW V (T hb 5 Z)=Q (J I r.M)/\ZW V (T hb 6 Z)=Q (U r.H)/\ZW V (T hb 7 Z)=Q (Y Z 0 0)):=λV h=>⟨(cq (a:=(T hb 5 Z)) h).k b5,(cq (a:=(T hb 6 Z)) h).k b6,(cq (a:=(T hb 7 Z)) h).k b7⟩
  have W:hb≠z (B w)+1:=λe=>by have:=ar l (e ▸ u.i);exact absurd this (by decide)
  have ZT:hb≠z (B w)+1+1:=λe=>by have:=ar l (e ▸ q.i);exact absurd this (by decide)
  have CM:Hid (Qw Pg 80 #[.pointer (Q (T hb 0 Z))] f.drew λe w'=>∃a c R,e=ZI (ZJ #[Y a (A R) c])/\DRow w' (z (B f)) (Y a (A R) c) R/\R.map (·.1)=bk S y/\Below (z (B f)) f w'):=by have hd:Below (z (B f)) f f.drew:=br.drew;have h:=AE (z (B w2)) f.drew hb md or L y (JO.aa hd ly) GS JN Fm (V0.aa (B3.k (hd.P P)) ly) (V1.aa (B3.k (hd.P P)) ly) Bk JK;exact h.P λe w' ⟨a,c,R,h1,h2,h3,h4⟩=>⟨a,c,R,h1,h2,h3,h4.os,h4.tape,h4.output,h4.size,h4.p⟩
  clear n ex hrel l DQ ph th b0 b1 b2 b3 hl C;go_wp2_with fail;refine wp_region_held_drew (S:=λV=>ZW V (T hb 5 Z)=Q (J I r.M)/\ZW V (T hb 6 Z)=Q (U r.H)/\ZW V (T hb 7 Z)=Q (Y Z 0 0)) (by kernel_rfl) (SQ _ rfl) ?_;intro hS;have ZP:=ae hS;clear hS b5 b6 b7 b8;refine aN 0 (v:=?_) rfl rfl (by kernel_rfl) (λ_ _ _ h=>h) rfl ?_ ZP ?_;rotate_left
  ·(rintro wz⟨s0,s1,s2⟩;go_simp)
   (try with_reducible rfl)
  (try simp only[p_,z_])
  iterate 4
   refine aN 2 (v:=?_) rfl rfl (by kernel_rfl) (λ_ _ _ h=>h) rfl ?_ ZP ?_;rotate_left
   ·(rintro wz⟨s0,s1,s2⟩;go_simp)
    (try with_reducible rfl)
   (try simp only[p_,z_])
  refine aL (i:=1) rfl (by kernel_rfl) λK Z9=>?_;go_simp;go_at_call 80;refine CM.P ?_;rintro e w4⟨X,c5,R,rfl,Fk,qr,ur⟩;have D4:=ae Fk;have M4:=ae qr;have ZM:=ae ur;clear Fk qr ur ZP;have ZP:=ae (SQ w4 (ZM.p _ M));refine Z9 _ _ ZP ?_;clear Z9 K
  (try simp only[p_,z_])
  refine aL (i:=6) rfl (by kernel_rfl) λK Z9=>?_;go_simp;go_at_call 79;have CC:=qW w4 r Z 0 (z (B w4)) (by rw[bt.i];exact⟨rfl,.inl ⟨rfl,rfl⟩⟩) (by rw[bt.i];exact DW _);rw[bt.i] at CC;refine CC.P ?_;clear CC;rintro e ZO⟨rv,rfl,⟨Z8,D,rfl,O⟩,ZR⟩;have ZZ:=ae O;have G:=ae ZR;have ZL:z (B f)<=z (B w4):=ZM.size;have t:=(G.p _ (lj (ah u) ZL)).k ((ZM.p _ (ah u)).k u);have ZQ:=(G.p _ (lj (ah q) ZL)).k ((ZM.p _ (ah q)).k q);obtain⟨rl,r0,r1,r2,H⟩:=bR ZQ;have JL:=H 0;have JG:=H 1;have JM:=H 2;have p0:ZW ZO (T (z (B w)+1) 0 Z)=Q (Y Z 0 0):=by simp[World.cell?,t]
  have JJ:ZX ZO (T (z (B w)+1) 0 Z)=ZA:=by simp[World.frozen?,t]
  have pl:=ah t;have Id:z (B w)+1<z (B f):=ah u.i;have JP:z (B w)+1+1<z (B f):=ah q.i;have n9:=(G.p hb (lj M ZL)).k (ZM.p hb M);clear H t ZQ ZP O ZR;have ZP:=ae (SQ ZO n9);refine Z9 _ _ ZP ?_;clear Z9 K
  (try simp only[p_,z_])
  refine aL (i:=7) rfl (by kernel_rfl) λK Z9=>?_;go_simp;have JH:=ae (SQ (ZU ZO (T (z (B w)+1) 0 Z) (Y X (A R) c5)) ((qh _ _ _ _ W).k n9));refine Z9 _ _ JH ?_;clear Z9 K
  (try simp only[p_])
  have JI:=ae (SQ (ZU (ZU (ZU (ZU ZO (T (z (B w)+1) 0 Z) (Y X (A R) c5)) (T (z (B w)+1+1) 0 Z) (J I r.M)) (T (z (B w)+1+1) 1 Z) (U r.H)) (T (z (B w)+1+1) 2 Z) (Y Z8 (A r.R) D)) ((qh _ _ _ _ ZT).k ((qh _ _ _ _ ZT).k ((qh _ _ _ _ ZT).k ((qh _ _ _ _ W).k n9)))));refine aL (i:=8) rfl (by kernel_rfl) λK Z9=>?_;go_simp;refine Z9 _ _ JI ?_;clear Z9 K
  (try simp only[p_])
  refine wpAnyH_done (by kernel_rfl) ?_ _;have OF:=ae (aB (aB (aB (aB ZZ (b:=z (B w)+1) (λe=>by have:=(af ZZ _ e).1;omega) 0 (Y X (A R) c5)) (b:=z (B w)+1+1) (λe=>by have:=(af ZZ _ e).1;omega) 0 (J I r.M)) (b:=z (B w)+1+1) (λe=>by have:=(af ZZ _ e).1;omega) 1 (U r.H)) (b:=z (B w)+1+1) (λe=>by have:=(af ZZ _ e).1;omega) 2 (Y Z8 (A r.R) D));have DF:=ae (((((D4.aa G ly).set (p:=(T (z (B w)+1) 0 Z)) (e:=25) (.inl (by show (z (B w))+1<z (B f);omega)) (Y X (A R) c5)).set (p:=(T (z (B w)+1+1) 0 Z)) (e:=25) (.inl (by show (z (B w))+1+1<z (B f);omega)) (J I r.M)).set (p:=(T (z (B w)+1+1) 1 Z)) (e:=25) (.inl (by show (z (B w))+1+1<z (B f);omega)) (U r.H)).set (p:=(T (z (B w)+1+1) 2 Z)) (e:=25) (.inl (by show (z (B w))+1+1<z (B f);omega)) (Y Z8 (A r.R) D));have BF:=ae (((((B3.k ((ZM.k (G.P ZL)).P P)).setCell (p:=(T (z (B w)+1) 0 Z)) (by show (z (B w))<=z (B w)+1;omega) (Y X (A R) c5)).setCell (p:=(T (z (B w)+1+1) 0 Z)) (by show (z (B w))<=z (B w)+1+1;omega) (J I r.M)).setCell (p:=(T (z (B w)+1+1) 1 Z)) (by show (z (B w))<=z (B w)+1+1;omega) (U r.H)).setCell (p:=(T (z (B w)+1+1) 2 Z)) (by show (z (B w))<=z (B w)+1+1;omega) (Y Z8 (A r.R) D));go_wp2;refine bp (v:=.tuple #[ZJ #[Y X (A R) c5],ZJ #[J I r.M,U r.H,Y Z8 (A r.R) D]]) (by simp[results,results49,go_sem,p0,r0,r1,r2]) rfl ⟨X,c5,R,_,rfl,DF.P P,M4,⟨Z8,D,rfl,aE OF (by omega)⟩,BF⟩
 case' inr.inl =>
  rw[hl] at g;obtain⟨r,n⟩:∃r,r=jx c:=⟨_,rfl⟩
  have e:bb=([],r):=by rw[n8.i,hl,n];rfl
  subst e;obtain⟨a,k,u0,u1,md,or,st,l,ho⟩:=g;have o:A r.R<=1000:=by rw[n];exact nX (C c hl) (by simp)
  have g:A c=A r.R:=by rw[n];rfl
  rw[<-n,g] at l ho;clear n g
 case' inr.inr =>
  rw[hl] at g;obtain⟨r,n⟩:∃r,r=jy d:=⟨_,rfl⟩
  have e:bb=([],r):=by rw[n8.i,hl,n];rfl
  subst e;obtain⟨u0,u1,md,or,st,l,ho⟩:=g;have o:A r.R<=1000:=by rw[n];exact DW _
  have g:0=A r.R:=by rw[n];rfl
  rw[<-n,g] at l ho;clear n g
 all_goals
  obtain⟨M,-,-,-,-,-,b5,b6,b7,b8,-⟩:=l.y;have Hx:=ae (qW f r _ _ _ ho o);have W:hb≠z (B w)+1:=λe=>by have:=ar l (e ▸ u.i);exact absurd this (by decide)
  have ZT:hb≠z (B w)+1+1:=λe=>by have:=ar l (e ▸ q.i);exact absurd this (by decide)
  clear hl C l ho o;go_wp2_with fail;refine Hx.P ?_;rintro e ZO⟨rv,rfl,⟨Z8,D,rfl,O⟩,ZR⟩;have ZZ:=ae O;have G:=ae ZR;have t:=(G.p _ (ah u)).k u;have ZQ:=(G.p _ (ah q)).k q;obtain⟨rl,r0,r1,r2,H⟩:=bR ZQ;have JL:=H 0;have JG:=H 1;have JM:=H 2;have p0:ZW ZO (T (z (B w)+1) 0 Z)=Q (Y Z 0 0):=by simp[World.cell?,t]
  have JJ:ZX ZO (T (z (B w)+1) 0 Z)=ZA:=by simp[World.frozen?,t]
  have pl:=ah t;have Id:z (B w)+1<z (B f):=ah u.i;have JP:z (B w)+1+1<z (B f):=ah q.i;have OF:=ae (aB (aB (aB (aB ZZ (b:=z (B w)+1) (λe=>by have:=(af ZZ _ e).1;omega) 0 (Y Z 0 0)) (b:=z (B w)+1+1) (λe=>by have:=(af ZZ _ e).1;omega) 0 (J I r.M)) (b:=z (B w)+1+1) (λe=>by have:=(af ZZ _ e).1;omega) 1 (U r.H)) (b:=z (B w)+1+1) (λe=>by have:=(af ZZ _ e).1;omega) 2 (Y Z8 (A r.R) D));have BF:=ae (((((B3.k (G.P P)).setCell (p:=(T (z (B w)+1) 0 Z)) (by show (z (B w))<=z (B w)+1;omega) (Y Z 0 0)).setCell (p:=(T (z (B w)+1+1) 0 Z)) (by show (z (B w))<=z (B w)+1+1;omega) (J I r.M)).setCell (p:=(T (z (B w)+1+1) 1 Z)) (by show (z (B w))<=z (B w)+1+1;omega) (U r.H)).setCell (p:=(T (z (B w)+1+1) 2 Z)) (by show (z (B w))<=z (B w)+1+1;omega) (Y Z8 (A r.R) D));clear H t ZQ O ZR b5 b6 b7 b8;go_wp2_with fail;refine bp (v:=.tuple #[ZJ #[Y Z 0 0],ZJ #[J I r.M,U r.H,Y Z8 (A r.R) D]]) (by simp[results,results49,go_sem,p0,r0,r1,r2]) rfl ⟨Z,0,[],_,rfl,jK _ _,rfl,⟨Z8,D,rfl,?_⟩,?_⟩
  ·first|exact aE OF (by omega)|(have h:=aE OF (show (z (B w))<=z (B f) by omega);simpa[p0] using h)
  ·first|exact BF|simpa[p0] using BF.i
def wF (w:E)(nm:F_)(f:Qx w a0 S.n0 S.f0)(g:Qq w a1 S.n1 S.f1)(hn0:S.n0<=1048576)(hn1:S.n1<=1048576)(b:∀i,i<S.n1->aP (S.f1 i))(l:∀i,i<S.n1->∀j,j<(S.f1 i).h->((S.f1 i).q j).s.size<=maxLen):Qw Pg 49 #[ZJ #[Y a0 S.n0 c0,Y a1 S.n1 c1],U nm] w λe m=>wD w S (bE S nm) e m:=by
 by_cases h:aR S.n0 S.f0 S.n1 S.f1=0/\aA nm=ZH;{exact xJ w nm f g hn0 hn1 b l h.1 h.2}
 ·have e:bE S nm=([],⟨9,⟨#[]⟩,[]⟩):=by unfold bE;rw[eI h]
  rw[e];exact wE w nm f g hn0 hn1 b l h
end
