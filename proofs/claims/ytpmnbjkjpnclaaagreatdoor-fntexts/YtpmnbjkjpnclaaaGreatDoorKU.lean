import Derived.Test.YtpmnbjkjpnclaaaGreatDoorKN
import Derived.Test.YtpmnbjkjpnclaaaGreatDoorKQ
set_option maxRecDepth 100000
set_option maxHeartbeats 4000000
open Go renaming Addr.mk->N,Value.slice->Y,Value.string->U,Value.int->Q,Value.agg->ZG,Obj.cells->J,IntKind.i64->I,World->M,Value->ZB,Ending.returned->ZD,World.heap->B
open Option renaming none->Z,some->T
open Bool renaming false->ZA
open Array renaming size->z
namespace Go.Proofs.YtpmnbjkjpnclaaaGreatDoor.Vp
open Tryz RowKit Ca
def Ef (f:M)(hb:Nat)(s0 s1:ZB)(b:M):Out Ent->Prop
 |.inl (made',x)=>∃L g h st,ShBox b hb s0 s1 g h st (cI x).E (cI x).y (Y Z 0 0) ZA/\b.ownsRow (z (B f)) 198 6 g L.length (L.flatMap smV)/\b.ownsRow (z (B f)) 9 1 h made'.length (bo (made'.map (·.e)))/\(∀m∈L,m.done=true->b.ownsRow (z (B f)) 201 3 m.sv m.V.length (dJ m.V))/\eK L [] made'
 |.inr (.inl c)=>∃a k,gS f hb b (iA c) (Y a c.length k)
 |.inr (.inr d)=>gS f hb b (iB d) (Y Z 0 0)
section
variable {S:Spc}{a0 a1:Option Addr}{c0 c1:Nat}
theorem uD (w:M)(C:nC w S a0 a1)(nm:ByteArray)(hn:aA nm=true):Calls Tryz.prog 70 #[ZG #[Y a0 S.n0 c0,Y a1 S.n1 c1],U nm] w λe ZM=>∃hb,e=ZD (.pointer (T (N hb 0 Z)))/\Ef w hb (Y a0 S.n0 c0) (Y a1 S.n1 c1) ZM (aQ S 60 [] [] nm)/\Below (z (B w)) w ZM:=by
 obtain⟨R,hR⟩:∃R,R=aQ S 60 [] [] nm:=⟨_,rfl⟩
 have HM:Hid (∀(W:M) (hb:Nat),SI w hb (Y a0 S.n0 c0) (Y a1 S.n1 c1) W [] [] [] (Y Z 0 0) (Y Z 0 0) (Y Z 0 0)->Calls Tryz.prog 130 #[.pointer (T (N hb 0 Z)),U nm] W λe ZM=>kj w hb (Y a0 S.n0 c0) (Y a1 S.n1 c1) [] [] W e ZM R):=by intro W hb ZQ;rw[hR];refine Br C 60 [] [] [] _ _ _ W nm rfl ZQ ⟨List.Pairwise.nil,rfl,λx A=>absurd A nj,λx A=>absurd A nj,λx A=>absurd A nj⟩ (iP S []) ?_ (λx A=>absurd A nj) hn;have h1:=tz S;have h2:=C.ok.ax;unfold ec;simp only[JJ];omega
 rw[<-hR];have zA:(w.alloc (J #[Y a0 S.n0 c0,Y a1 S.n1 c1] 27)).heap.size=z (B w)+1:=by simp
 obtain⟨ZI,ZR⟩:∃W:M,(w.alloc (J #[Y a0 S.n0 c0,Y a1 S.n1 c1] 27)).alloc (J #[Y a0 S.n0 c0,Y a1 S.n1 c1,Y Z 0 0,Y Z 0 0,Y Z 0 0,Q I 0,U ⟨#[]⟩,Y Z 0 0,.bool ZA] 117)=W:=⟨_,rfl⟩
 obtain⟨O,-,-,-⟩:=nb2 ZR;have t:=ae ZR;clear ZR;have ZJ:Hid (SI w (z (B w)+1) (Y a0 S.n0 c0) (Y a1 S.n1 c1) ZI [] [] [] (Y Z 0 0) (Y Z 0 0) (Y Z 0 0)):=by
  cases t.out
  refine⟨O,JH _,?_,⟨rfl,.inl ⟨rfl,rfl⟩⟩,⟨rfl,.inl ⟨rfl,rfl⟩⟩,⟨rfl,.inl ⟨rfl,rfl⟩⟩,(λk h=>by cases h),λm X=>absurd X nj⟩;have h2:=gM (w.alloc (J #[Y a0 S.n0 c0,Y a1 S.n1 c1] 27)) (J #[Y a0 S.n0 c0,Y a1 S.n1 c1,Y Z 0 0,Y Z 0 0,Y Z 0 0,Q I 0,U ⟨#[]⟩,Y Z 0 0,.bool ZA] 117);rw[zA] at h2;exact h2
 clear hn C hR zA;go_enter func70,ntmps70;go_wp2_with fail;rw[t.out];clear t;obtain⟨hb,ZL⟩:∃hb,hb=z (B w)+1:=⟨_,rfl⟩
 rw[<-ZL] at ZJ ⊢;have G:z (B w)<=hb:=by omega
 clear ZL;refine(HM ZI hb ZJ).mono ?_;clear HM;rintro e q l;rcases R with ⟨made',x⟩|c|d
 ·obtain⟨L,md,or,st,rfl,ZQ,hrel,-,f⟩:=l;have o:=ae (O.trans f.aa);have mv:=ae hrel;obtain⟨D,K⟩:∃D,D=(cI x).E:=⟨_,rfl⟩
  obtain⟨ZS,ZP⟩:∃ZS,ZS=(cI x).y:=⟨_,rfl⟩
  have ex:=ae K;have ld:=ae ZP;rw[<-K,<-ZP];have i:=ae ((BS q).alloc ly (J #[Q I D,U ZS,Y Z 0 0] 39));have E:=ae (ZQ.aa i ly);clear f hrel ZQ K ZP;obtain⟨ZK,-,-,-,-,-,b5,b6,b7,b8,ZN⟩:=E.ab.K;have bf5:=ZN 5;have bf6:=ZN 6;have bf7:=ZN 7;clear ZN;go_wp2_with fail;go_ret;have y:∀{size n:Nat} {P:TypeId} {u:ZB} {V:List ZB},(q.alloc (J #[Q I D,U ZS,Y Z 0 0] 39)).ownsRow (z (B w)) P size u n V->117≠P->((((q.alloc (J #[Q I D,U ZS,Y Z 0 0] 39)).setCell (N hb 5 Z) (Q I D)).setCell (N hb 6 Z) (U ZS)).setCell (N hb 7 Z) (Y Z 0 0)).ownsRow (z (B w)) P size u n V:=λhr ht=>by
   rename_i size n P u V;have H:u.ownBlock≠T hb:=λe=>by obtain⟨_,_,cs2,n8⟩:=af hr hb e;exact absurd (ah E.ab n8) ht
   exact ay (ay (ay hr H _ _) H _ _) H _ _
  refine⟨hb,rfl,⟨L,md,or,st,?_,y E.W (by decide),y E.ror (by decide),λm X hd=>y (E.V m X hd) (by decide),mv⟩,?_⟩;{rw[<-ex.out,<-ld.out];exact au (au (au E.ab (j:=5) _) (j:=6) _) (j:=7) _};{exact(((o.trans (i.mono o.size)).setCell (p:=(N hb 5 Z)) G _).setCell (p:=(N hb 6 Z)) G _).setCell (p:=(N hb 7 Z)) G _}
 {obtain⟨a,k,rfl,⟨s0,s1,bt,fd,aq,g,b⟩,f⟩:=l;have s:=ae g;have ZO:=ae b;have o:=ae (O.trans f.aa);clear g b f;unfold ig iA;dsimp only;have i:=ae ((BS q).alloc ly (J #[Q I 6,U ⟨#[]⟩,Y a c.length k] 39));have r:=ae (ShBox.ad s (i.block _ (ag s)));obtain⟨ZK,-,-,-,-,-,-,-,-,b8,-⟩:=r.K;go_wp2_with fail;go_ret;exact⟨hb,rfl,⟨a,k,_,_,_,_,_,r,own_below ZO i ly⟩,o.trans (i.mono o.size)⟩};{obtain⟨rfl,⟨s0,s1,bt,fd,aq,g,b⟩,f⟩:=l;have s:=ae g;have ZO:=ae b;have o:=ae (O.trans f.aa);clear g b f;unfold ig iB;dsimp only;have i:=ae ((BS q).alloc ly (J #[Q I 7,U d,Y Z 0 0] 39));have r:=ae (ShBox.ad s (i.block _ (ag s)));obtain⟨ZK,-,-,-,-,-,-,-,-,b8,-⟩:=r.K;go_wp2_with fail;go_ret;exact⟨hb,rfl,⟨_,_,_,_,_,r,own_below ZO i ly⟩,o.trans (i.mono o.size)⟩}
end
theorem BH (w:M)(A:Int)(y:ByteArray)(D:List ByteArray)(a:Option Addr)(n c ZS:Nat)(hn:n=D.length)(hlen:n<=1000)(ZI:w.ownsRow ZS 9 1 (Y a n c) n (bo D)):Calls Tryz.prog 71 #[ZG #[Q I A,U y,Y a n c]] w λe w'=>∃rv,e=ZD rv/\mh w w' ⟨A,y,D⟩ rv/\Below (z (B w)) w w':=by
 obtain⟨i1,aq,bt,ex,ZK⟩:=jF nE;have HO:=ae ZI;have H:=ae hn;clear ZI hn;obtain⟨b,ZR⟩:∃W:M,(w.alloc (J #[Q I A,U y,Y a n c] 39)).alloc (J #[Q I 0,U ⟨#[]⟩,Y Z 0 0] 39)=W:=⟨_,rfl⟩
 obtain⟨ZO,kP,kR,-⟩:=nb2 ZR;have G:=ae ZR;clear ZR;go_enter func71,ntmps71;go_upto_region 1 with fail;rw[G.out];clear G;obtain⟨-,p0,p1,p2,-⟩:=bw kP;have ZJ:z (B w)+1<z (B b):=ag kR.out;have ZP:Hid (∀V:M,(∀k,k<z (B b)->V.heap[k]?=b.heap[k]?)->V.cell? (N (z (B w)) 0 Z)=T (Q I A)/\V.cell? (N (z (B w)) 1 Z)=T (U y)/\V.cell? (N (z (B w)) 2 Z)=T (Y a n c)):=λV O=>by have e:=cq (a:=(N (z (B w)) 0 Z)) (O (z (B w)) (by omega));have e1:=cq (a:=(N (z (B w)) 1 Z)) (O (z (B w)) (by omega));have e2:=cq (a:=(N (z (B w)) 2 Z)) (O (z (B w)) (by omega));exact⟨e.trans p0,e1.trans p1,e2.trans p2⟩
 have E:=ae (ZP b.drew (λk r=>rfl));refine aD (λV=>V.cell? (N (z (B w)) 0 Z)=T (Q I A)/\V.cell? (N (z (B w)) 1 Z)=T (U y)/\V.cell? (N (z (B w)) 2 Z)=T (Y a n c)) 9 (by kernel_rfl) ?_;clear p0 p1 p2;iterate 4
  refine aH 0 (v:=?_) rfl rfl (by kernel_rfl) (λ_ _ _ h=>h) rfl ?_ E ?_;rotate_left
  ·(rintro wz ⟨s0,s1,s2⟩;go_simp)
   (try with_reducible rfl)
  (try simp only[Act.put,nzL])
 iterate 2
  refine aH 5 (v:=?_) rfl rfl (by kernel_rfl) (λ_ _ _ h=>h) rfl ?_ E ?_;rotate_left
  ·(rintro wz ⟨s0,s1,s2⟩;go_simp)
   (try with_reducible rfl)
  (try simp only[Act.put,nzL])
 refine ai (i:=4) rfl (by kernel_rfl) λK l=>?_;go_simp;have P:=ae (((BS b).drew).alloc ly (J #[] 9));refine l _ _ (λ_=>ZP _ (λk r=>P.block k r)) ?_;clear l K
 (try simp only[Act.put,nzL])
 have f:Hid (Below (z (B b)) b (b.alloc (J #[] 9)).drew):=((BS b).alloc ly _).drew;have o:Hid ((b.alloc (J #[] 9)).drew.ownsRow (z (B b)) 9 1 (Y (T (N (z (B b)) 0 Z)) 0 0) 0 []):=own_below (me b 9 1) br.drew ly;have ZQ:Hid ((b.alloc (J #[] 9)).drew.ownsRow ZS 9 1 (Y a n c) n (bo D)):=own_below (own_below HO ZO ly) f ly;refine ai (i:=7) rfl (by kernel_rfl) λK l=>?_;obtain⟨-,⟨ZN,h0⟩|⟨g,cap,cur,ZN,-⟩⟩:=id ZQ.out;focus
  have e0:D=[]:=PX.1 (H.out.symm.trans h0);cases ZN
  subst e0;go_simp;have x:=f;obtain⟨a1,c1,X,L⟩:∃a1 c1,(Y a1 0 c1:ZB)=Y (T (N (z (B b)) 0 Z)) 0 0/\Hid ((b.alloc (J #[] 9)).drew.ownsRow (z (B b)) 9 1 (Y a1 0 c1) 0 (bo [])):=⟨_,_,rfl,o⟩
  rw[<-X];clear f o ZQ P X;refine l _ _ (λ_=>ZP _ (λk r=>x.block k r)) ?_;generalize (b.alloc (J #[] 9)).drew=R at x L ⊢
 rotate_left;focus
  cases ZN
  refine aW (w:=(b.alloc (J #[] 9)).drew) rfl (.tmp 7) (.tmp 9) 30 rfl (z (B b)) 9 i1 (U ⟨#[]⟩) 1 16 JD aq bt ex ZK rfl (by decide) (Y (T (N (z (B b)) 0 Z)) 0 0) 0 [] (by simp[Act.eval]) o.out (N g 0 Z) n c (bo D) (by simp[Act.eval]) (by rw[bo,LI,<-H.out,Nat.mul_one]) (λq u h=>ZQ.cells (g:=g) rfl q u h) (λu hu=>by rw[bo,KH] at hu;obtain⟨t,_,rfl⟩:=hu;rfl) (by unfold maxLen;omega) (by omega) f.size ?_;intro v1 R m C ZL;have x:Hid (Below (z (B b)) b R):=f.trans (bg (cM (z (B b)) _) C f.size (λj e=>(o.lt j e).1));rw[JC,JW] at m;have L:=ae m;obtain⟨a1,c1,rfl⟩:=iT m;clear m C ZL f o ZQ P;refine l _ _ (λ_=>ZP _ (λk r=>x.block k r)) ?_
 all_goals
  clear l K
  (try simp only[Act.put,nzL])
  have S:=ae (ZP R (λk r=>x.block k r));clear E;have E:=ae S.out;refine aH 8 (v:=?_) rfl rfl (by kernel_rfl) (λ_ _ _ h=>h) rfl ?_ E ?_;rotate_left
  ·(rintro wz ⟨s0,s1,s2⟩;go_simp)
   (try with_reducible rfl)
  (try simp only[Act.put,nzL])
  obtain⟨rl,r0,r1,r2,ZM⟩:=bw ((x.block _ ZJ).trans kR);have rf0:=ZM 0;have rf1:=ZM 1;have rf2:=ZM 2;clear ZM;refine ai (i:=9) rfl (by kernel_rfl) λK l=>?_;go_simp;refine l _ _ (λh=>absurd rfl h) ?_;clear l K E
  (try simp only[Act.put])
  refine aT (by kernel_rfl) ?_ _;go_wp2_with fail;first|refine bp (v:=ZG #[Q I A,U y,Y a1 n c1]) (by simp[results,results71,go_sem,r0,r1,r2]) rfl ⟨_,rfl,⟨a1,c1,by rw[<-H.out],?_⟩,?_⟩|refine bp (v:=ZG #[Q I A,U y,Y a1 0 c1]) (by simp[results,results71,go_sem,r0,r1,r2]) rfl ⟨_,rfl,⟨a1,c1,by rw[<-H.out],?_⟩,?_⟩
  ·show World.ownsRow _ _ _ _ _ (List.length _) _
   rw[<-H.out];refine aC (ay (ay (ay L (λe=>?_) _ _) (λe=>?_) _ _) (λe=>?_) _ _) ZO.size;all_goals
    have:=(af L _ e).1;omega
  ·exact(((ZO.trans (x.mono ZO.size)).setCell (p:=(N (z (B w)+1) 0 Z)) (JH _) _).setCell (p:=(N (z (B w)+1) 1 Z)) (JH _) _).setCell (p:=(N (z (B w)+1) 2 Z)) (JH _) _
theorem oO (w:M)(r:iO)(a:Option Addr)(c ZS:Nat)(g:w.ownsRow ZS 9 1 (Y a r.w.length c) r.w.length (bo r.w))(b:r.w.length<=1000):Calls Tryz.prog 71 #[ZG #[Q I r.E,U r.y,Y a r.w.length c]] w λe i=>∃h,e=ZD h/\mh w i r h/\Below (z (B w)) w i:=by obtain⟨l,j,f⟩:=r;simp only at g b ⊢;exact BH w l j f a f.length c ZS rfl b g
theorem xz {S:Spc}{lies:List Ent->ByteArray->Out Ent}{t K:Nat}(j:∀b nm c,lies b nm=.inr (.inl c)->c.length<=K):∀k b g f c,bU S lies t k b g f=.inr (.inl c)->c.length<=K:=by
 intro k;induction k with
 |zero=>intro b g f c h;cases h
 |succ k i =>
  intro b g f c h;rw[bU] at h;split at h;{cases h}
  ·split at h;{exact i _ _ _ _ h}
   ·split at h;{exact i _ _ _ _ h}
    ·rename_i c' l;cases h
     exact j _ _ _ l
    {cases h}
theorem uE (S:Spc):∀n b f nm c,aQ S n b f nm=.inr (.inl c)->c.length<=b.length+n:=by
 intro n;have g:∀b f nm c (K:Nat) (tgt:Nat->Out Ent),b.length<=K->(∀t c,tgt t=.inr (.inl c)->c.length<=K)->ew S tgt b f nm=.inr (.inl c)->c.length<=K:=by
  intro b f nm c K tgt hK i h;unfold ew at h;split at h;{cases h}
  ·split at h
   ·cases h
    rw[J6];omega
   {unfold fR eJ at h;split at h;{cases h};{split at h;{exact i _ _ h};{cases h}}}
 induction n with
 |zero =>intro b f nm c h;rw[aQ] at h;exact g _ _ _ _ _ _ (by omega) (λt c h=>by cases h) h
 |succ n j =>
  intro b f nm c h;rw[aQ] at h;refine g _ _ _ _ _ _ (by omega) (λt c h=>?_) h;rcases hr:bU S (aQ S n (b++[nm])) t 201 f [] [] with ⟨made1,x⟩|c1|d;{rw[hr] at h;cases h}
  ·rw[hr] at h;cases h
   refine xz (λf nm2 c2 h2=>?_) _ _ _ _ _ hr;have:=j _ _ _ _ h2;rw[eL,D0] at this;omega
  {rw[hr] at h;cases h}
