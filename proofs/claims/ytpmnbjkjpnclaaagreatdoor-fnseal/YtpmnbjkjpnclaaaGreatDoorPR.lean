import Derived.Deep.RegionHeld3
import Derived.Test.YtpmnbjkjpnclaaaGreatDoorPH
import Derived.Defers
import Derived.Recover
set_option maxRecDepth 100000
set_option maxHeartbeats 8000000
open Go renaming Addr.mk->Q,Value.slice->Z,Value.string->U,Value.int->N,Value.bool->ZD,Value.agg->ZH,Obj.cells->J,IntKind.i64->I,World->M,Value->ZC,TypeId->ZI,Ending.returned->ZF,World.alloc->A,World.cell?->h,Proofs.Tryz.prog->Pg
open Option renaming none->Y,some->T
open Bool renaming false->ZA,true->ZG
namespace Go.Proofs.YtpmnbjkjpnclaaaGreatDoor.Vp
open Tryz RowKit Go.Maps Ca
variable {w m:M}{S:Spc}{l:Lk}{c b size n f i:Nat}{j:ZC}{x:Ent}{e:ZI}{L:List SM}
def ub (w b:M)(r:kZ)(v:ZC):Prop:=∃a c,v=ZH #[N I r.E,U r.B,Z a r.j.length c]/\b.ownsRow w.heap.size 9 1 (Z a r.j.length c) r.j.length (bW r.j)
theorem Du (w b:M)(c:Int)(t:ByteArray):ub w b ⟨c,t,[]⟩ (ZH #[N I c,U t,Z Y 0 0]):=⟨Y,0,rfl,⟨rfl,.inl ⟨rfl,rfl⟩⟩⟩
section
variable {S:Spc}{a0 a1:Option Addr}{c0 c1:Nat}
theorem Gb (S:Spc):d9 S [] []<=S.n1:=by have:=T0 (p:=jA S [] []) (l:=List.range S.n1);rw[List.length_range] at this;exact this
end
def IM (f:M)(hb:Nat)(i j:ZC)(b:M):Out Ent->Prop
 |.inl (made',x)=>∃L g ZT st,ShBox b hb i j g ZT st (dS x).E (dS x).B (Z Y 0 0) ZA/\b.ownsRow f.heap.size 198 6 g L.length (L.flatMap smV)/\b.ownsRow f.heap.size 9 1 ZT made'.length (bW (made'.map (·.e)))/\(∀m∈L,m.done=ZG->b.ownsRow f.heap.size 201 3 m.sv m.c.length (eG m.c))/\fH L [] made'
 |.inr (.inl c)=>∃a k,ji f hb b (jB c) (Z a c.length k)
 |.inr (.inr d)=>ji f hb b (jC d) (Z Y 0 0)
section
variable {S:Spc}{a0 a1:Option Addr}{c0 c1:Nat}
theorem xB (w:M)(C:pz w S a0 a1)(nm:ByteArray)(hn:aw nm=ZG):Calls Pg 70 #[ZH #[Z a0 S.n0 c0,Z a1 S.n1 c1],U nm] w λe ZR=>∃hb,e=ZF (.pointer (T (Q hb 0 Y)))/\IM w hb (Z a0 S.n0 c0) (Z a1 S.n1 c1) ZR (bC S 60 [] [] nm)/\Below w.heap.size w ZR:=by
 obtain⟨R,hR⟩:∃R,R=bC S 60 [] [] nm:=⟨_,rfl⟩
 have HM:Hid (∀(W:M) (hb:Nat),SI w hb (Z a0 S.n0 c0) (Z a1 S.n1 c1) W [] [] [] (Z Y 0 0) (Z Y 0 0) (Z Y 0 0)->Calls Pg 130 #[.pointer (T (Q hb 0 Y)),U nm] W λe ZR=>mF w hb (Z a0 S.n0 c0) (Z a1 S.n1 c1) [] [] W e ZR R):=by intro W hb O;rw[hR];refine F7 C 60 [] [] [] _ _ _ W nm rfl O ⟨List.Pairwise.nil,rfl,λx y=>absurd y nj,λx y=>absurd y nj,λx y=>absurd y nj⟩ (nE S []) ?_ (λx y=>absurd y nj) hn;have h1:=Gb S;have h2:=C.ok.az;unfold fj;simp only[nX];omega
 rw[<-hR];have V:(A w (J #[Z a0 S.n0 c0,Z a1 S.n1 c1] 27)).heap.size=w.heap.size+1:=by simp
 obtain⟨ZK,ZS⟩:∃W:M,(A w (J #[Z a0 S.n0 c0,Z a1 S.n1 c1] 27)).alloc (J #[Z a0 S.n0 c0,Z a1 S.n1 c1,Z Y 0 0,Z Y 0 0,Z Y 0 0,N I 0,U ⟨#[]⟩,Z Y 0 0,ZD ZA] 117)=W:=⟨_,rfl⟩
 obtain⟨ZP,-,-,-⟩:=nb2 ZS;have t:=ae ZS;clear ZS;have S0:Hid (SI w (w.heap.size+1) (Z a0 S.n0 c0) (Z a1 S.n1 c1) ZK [] [] [] (Z Y 0 0) (Z Y 0 0) (Z Y 0 0)):=by
  cases t.out
  refine⟨ZP,F6 _,?_,⟨rfl,.inl ⟨rfl,rfl⟩⟩,⟨rfl,.inl ⟨rfl,rfl⟩⟩,⟨rfl,.inl ⟨rfl,rfl⟩⟩,(λk ZT=>by cases ZT),λm ZL=>absurd ZL nj⟩;have h2:=nL (A w (J #[Z a0 S.n0 c0,Z a1 S.n1 c1] 27)) (J #[Z a0 S.n0 c0,Z a1 S.n1 c1,Z Y 0 0,Z Y 0 0,Z Y 0 0,N I 0,U ⟨#[]⟩,Z Y 0 0,ZD ZA] 117);rw[V] at h2;exact h2
 clear hn C hR V;go_enter func70,ntmps70;go_wp2_with fail;rw[t.out];clear t;obtain⟨hb,ZN⟩:∃hb,hb=w.heap.size+1:=⟨_,rfl⟩
 rw[<-ZN] at S0 ⊢;have E:w.heap.size<=hb:=by omega
 clear ZN;refine(HM ZK hb S0).mono ?_;clear HM;rintro e q l;rcases R with ⟨made',x⟩|c|d
 ·obtain⟨L,md,or,st,rfl,O,hrel,-,f⟩:=l;have s:=ae (ZP.trans f.aa);have bt:=ae hrel;obtain⟨D,ZQ⟩:∃D,D=(dS x).E:=⟨_,rfl⟩
  obtain⟨rt,H⟩:∃rt,rt=(dS x).B:=⟨_,rfl⟩
  have ZJ:=ae ZQ;have X:=ae H;rw[<-ZQ,<-H];have i:=ae ((q9 q).alloc ly (J #[N I D,U rt,Z Y 0 0] 39));have B:=ae (O.aa i ly);clear f hrel O ZQ H;obtain⟨P,-,-,-,-,-,b5,b6,b7,b8,K⟩:=B.ab.K;have bf5:=K 5;have bf6:=K 6;have bf7:=K 7;clear K;go_wp2_with fail;go_ret;have z:∀{size n:Nat} {ZO:ZI} {u:ZC} {ZM:List ZC},(q.alloc (J #[N I D,U rt,Z Y 0 0] 39)).ownsRow w.heap.size ZO size u n ZM->117≠ZO->((((q.alloc (J #[N I D,U rt,Z Y 0 0] 39)).setCell (Q hb 5 Y) (N I D)).setCell (Q hb 6 Y) (U rt)).setCell (Q hb 7 Y) (Z Y 0 0)).ownsRow w.heap.size ZO size u n ZM:=λhr ht=>by
   rename_i size n ZO u ZM;have G:u.ownBlock≠T hb:=λe=>by obtain⟨_,_,cs2,la⟩:=aj hr hb e;exact absurd (ar B.ab la) ht
   exact aA (aA (aA hr G _ _) G _ _) G _ _
  refine⟨hb,rfl,⟨L,md,or,st,?_,z B.W (by decide),z B.ror (by decide),λm ZL hd=>z (B.c m ZL hd) (by decide),bt⟩,?_⟩;{rw[<-ZJ.out,<-X.out];exact ay (ay (ay B.ab (j:=5) _) (j:=6) _) (j:=7) _};{exact(((s.trans (i.mono s.size)).setCell (p:=(Q hb 5 Y)) E _).setCell (p:=(Q hb 6 Y)) E _).setCell (p:=(Q hb 7 Y)) E _}
 {obtain⟨a,k,rfl,⟨s0,s1,fd,aq,dg,g,b⟩,f⟩:=l;have r:=ae g;have F:=ae b;have s:=ae (ZP.trans f.aa);clear g b f;unfold js jB;dsimp only;have i:=ae ((q9 q).alloc ly (J #[N I 6,U ⟨#[]⟩,Z a c.length k] 39));have o:=ae (ShBox.ad r (i.block _ (ai r)));obtain⟨P,-,-,-,-,-,-,-,-,b8,-⟩:=o.K;go_wp2_with fail;go_ret;exact⟨hb,rfl,⟨a,k,_,_,_,_,_,o,own_below F i ly⟩,s.trans (i.mono s.size)⟩};{obtain⟨rfl,⟨s0,s1,fd,aq,dg,g,b⟩,f⟩:=l;have r:=ae g;have F:=ae b;have s:=ae (ZP.trans f.aa);clear g b f;unfold js jC;dsimp only;have i:=ae ((q9 q).alloc ly (J #[N I 7,U d,Z Y 0 0] 39));have o:=ae (ShBox.ad r (i.block _ (ai r)));obtain⟨P,-,-,-,-,-,-,-,-,b8,-⟩:=o.K;go_wp2_with fail;go_ret;exact⟨hb,rfl,⟨_,_,_,_,_,o,own_below F i ly⟩,s.trans (i.mono s.size)⟩}
end
theorem Gc (w:M)(y:Int)(rt:ByteArray)(C:List ByteArray)(a:Option Addr)(n c B:Nat)(hn:n=C.length)(hlen:n<=1000)(ho:w.ownsRow B 9 1 (Z a n c) n (bW C)):Calls Pg 71 #[ZH #[N I y,U rt,Z a n c]] w λe w'=>∃ZJ,e=ZF ZJ/\ub w w' ⟨y,rt,C⟩ ZJ/\Below w.heap.size w w':=by
 obtain⟨i1,ZK,R,ZM,aq⟩:=lF pA;have HO:=ae ho;have G:=ae hn;clear ho hn;obtain⟨b,x⟩:∃W:M,(A w (J #[N I y,U rt,Z a n c] 39)).alloc (J #[N I 0,U ⟨#[]⟩,Z Y 0 0] 39)=W:=⟨_,rfl⟩
 obtain⟨H,kP,ZN,-⟩:=nb2 x;have E:=ae x;clear x;go_enter func71,ntmps71;go_upto_region 1 with fail;rw[E.out];clear E;obtain⟨-,p0,p1,S,-⟩:=bv kP;have dg:w.heap.size+1<b.heap.size:=ai ZN.out;have F:Hid (∀V:M,(∀k,k<b.heap.size->V.heap[k]?=b.heap[k]?)->h V (Q w.heap.size 0 Y)=T (N I y)/\h V (Q w.heap.size 1 Y)=T (U rt)/\h V (Q w.heap.size 2 Y)=T (Z a n c)):=λV O=>by have e:=cq (a:=(Q w.heap.size 0 Y)) (O w.heap.size (by omega));have e1:=cq (a:=(Q w.heap.size 1 Y)) (O w.heap.size (by omega));have e2:=cq (a:=(Q w.heap.size 2 Y)) (O w.heap.size (by omega));exact⟨e.trans p0,e1.trans p1,e2.trans S⟩
 have D:=ae (F b.drew (λk o=>rfl));refine aD (λV=>h V (Q w.heap.size 0 Y)=T (N I y)/\h V (Q w.heap.size 1 Y)=T (U rt)/\h V (Q w.heap.size 2 Y)=T (Z a n c)) 9 (by kernel_rfl) ?_;clear p0 p1 S;iterate 4
  refine aJ 0 (v:=?_) rfl rfl (by kernel_rfl) (λ_ _ _ ZT=>ZT) rfl ?_ D ?_;rotate_left
  ·(rintro wz ⟨s0,s1,s2⟩;go_simp)
   (try with_reducible rfl)
  (try simp only[Act.put,nzL])
 iterate 2
  refine aJ 5 (v:=?_) rfl rfl (by kernel_rfl) (λ_ _ _ ZT=>ZT) rfl ?_ D ?_;rotate_left
  ·(rintro wz ⟨s0,s1,s2⟩;go_simp)
   (try with_reducible rfl)
  (try simp only[Act.put,nzL])
 refine ah (i:=4) rfl (by kernel_rfl) λK l=>?_;go_simp;have P:=ae (((q9 b).drew).alloc ly (J #[] 9));refine l _ _ (λ_=>F _ (λk o=>P.block k o)) ?_;clear l K
 (try simp only[Act.put,nzL])
 have f:Hid (Below b.heap.size b (A b (J #[] 9)).drew):=((q9 b).alloc ly _).drew;have s:Hid ((A b (J #[] 9)).drew.ownsRow b.heap.size 9 1 (Z (T (Q b.heap.size 0 Y)) 0 0) 0 []):=own_below (od b 9 1) br.drew ly;have L:Hid ((A b (J #[] 9)).drew.ownsRow B 9 1 (Z a n c) n (bW C)):=own_below (own_below HO H ly) f ly;refine ah (i:=7) rfl (by kernel_rfl) λK l=>?_;obtain⟨-,⟨ZR,h0⟩|⟨g,cap,cur,ZR,-⟩⟩:=id L.out;focus
  have e0:C=[]:=PT.1 (G.out.symm.trans h0);cases ZR
  subst e0;go_simp;have z:=f;obtain⟨a1,c1,ea,ZQ⟩:∃a1 c1,(Z a1 0 c1:ZC)=Z (T (Q b.heap.size 0 Y)) 0 0/\Hid ((A b (J #[] 9)).drew.ownsRow b.heap.size 9 1 (Z a1 0 c1) 0 (bW [])):=⟨_,_,rfl,s⟩
  rw[<-ea];clear f s L P ea;refine l _ _ (λ_=>F _ (λk o=>z.block k o)) ?_;generalize (A b (J #[] 9)).drew=ZO at z ZQ ⊢
 rotate_left;focus
  cases ZR
  refine aG (w:=(A b (J #[] 9)).drew) rfl (.tmp 7) (.tmp 9) 30 rfl b.heap.size 9 i1 (U ⟨#[]⟩) 1 16 IB ZK R ZM aq rfl (by decide) (Z (T (Q b.heap.size 0 Y)) 0 0) 0 [] (by simp[Act.eval]) s.out (Q g 0 Y) n c (bW C) (by simp[Act.eval]) (by rw[bW,Q9,<-G.out,Nat.mul_one]) (λq u ZT=>L.cells (g:=g) rfl q u ZT) (λu hu=>by rw[bW,QX] at hu;obtain⟨t,_,rfl⟩:=hu;rfl) (by unfold maxLen;omega) (by omega) f.size ?_;intro v1 ZO m ZS X;have z:Hid (Below b.heap.size b ZO):=f.trans (bg (dB b.heap.size _) ZS f.size (λj e=>(s.lt j e).1));rw[FM,LY] at m;have ZQ:=ae m;obtain⟨a1,c1,rfl⟩:=j7 m;clear m ZS X f s L P;refine l _ _ (λ_=>F _ (λk o=>z.block k o)) ?_
 all_goals
  clear l K
  (try simp only[Act.put,nzL])
  have bt:=ae (F ZO (λk o=>z.block k o));clear D;have D:=ae bt.out;refine aJ 8 (v:=?_) rfl rfl (by kernel_rfl) (λ_ _ _ ZT=>ZT) rfl ?_ D ?_;rotate_left
  ·(rintro wz ⟨s0,s1,s2⟩;go_simp)
   (try with_reducible rfl)
  (try simp only[Act.put,nzL])
  obtain⟨rl,r0,r1,ZL,ZP⟩:=bv ((z.block _ dg).trans ZN);have rf0:=ZP 0;have rf1:=ZP 1;have rf2:=ZP 2;clear ZP;refine ah (i:=9) rfl (by kernel_rfl) λK l=>?_;go_simp;refine l _ _ (λZT=>absurd rfl ZT) ?_;clear l K D
  (try simp only[Act.put])
  refine aX (by kernel_rfl) ?_ _;go_wp2_with fail;first|refine bp (v:=ZH #[N I y,U rt,Z a1 n c1]) (by simp[results,results71,go_sem,r0,r1,ZL]) rfl ⟨_,rfl,⟨a1,c1,by rw[<-G.out],?_⟩,?_⟩|refine bp (v:=ZH #[N I y,U rt,Z a1 0 c1]) (by simp[results,results71,go_sem,r0,r1,ZL]) rfl ⟨_,rfl,⟨a1,c1,by rw[<-G.out],?_⟩,?_⟩
  ·show World.ownsRow _ _ _ _ _ (List.length _) _
   rw[<-G.out];refine aB (aA (aA (aA ZQ (λe=>?_) _ _) (λe=>?_) _ _) (λe=>?_) _ _) H.size;all_goals
    have:=(aj ZQ _ e).1;omega
  ·exact(((H.trans (z.mono H.size)).setCell (p:=(Q (w.heap.size+1) 0 Y)) (F6 _) _).setCell (p:=(Q (w.heap.size+1) 1 Y)) (F6 _) _).setCell (p:=(Q (w.heap.size+1) 2 Y)) (F6 _) _
theorem qJ (w:M)(r:kZ)(a:Option Addr)(c B:Nat)(i:w.ownsRow B 9 1 (Z a r.j.length c) r.j.length (bW r.j))(b:r.j.length<=1000):Calls Pg 71 #[ZH #[N I r.E,U r.B,Z a r.j.length c]] w λe ZT=>∃f,e=ZF f/\ub w ZT r f/\Below w.heap.size w ZT:=by obtain⟨j,rt,g⟩:=r;simp only at i b ⊢;exact Gc w j rt g a g.length c B rfl b i
theorem Au{f:List Ent->ByteArray->Out Ent}{t K:Nat}(l:∀b nm c,f b nm=.inr (.inl c)->c.length<=K):∀k b i g c,dR S f t k b i g=.inr (.inl c)->c.length<=K:=by
 intro k;induction k with
 |zero=>intro b i g c ZT;cases ZT
 |succ k j =>
  intro b i g c ZT;rw[dR] at ZT;split at ZT;{cases ZT}
  ·split at ZT;{exact j _ _ _ _ ZT}
   ·split at ZT;{exact j _ _ _ _ ZT}
    ·rename_i c' m;cases ZT
     exact l _ _ _ m
    {cases ZT}
theorem xC (S:Spc):∀n b f nm c,bC S n b f nm=.inr (.inl c)->c.length<=b.length+n:=by
 intro n;have g:∀b f nm c (K:Nat) (tgt:Nat->Out Ent),b.length<=K->(∀t c,tgt t=.inr (.inl c)->c.length<=K)->fW S tgt b f nm=.inr (.inl c)->c.length<=K:=by
  intro b f nm c K tgt hK j ZT;unfold fW at ZT;split at ZT;{cases ZT}
  ·split at ZT
   ·cases ZT
    rw[LK];omega
   {unfold jZ jr at ZT;split at ZT;{cases ZT};{split at ZT;{exact j _ _ ZT};{cases ZT}}}
 induction n with
 |zero =>intro b f nm c ZT;rw[bC] at ZT;exact g _ _ _ _ _ _ (by omega) (λt c ZT=>by cases ZT) ZT
 |succ n i =>
  intro b f nm c ZT;rw[bC] at ZT;refine g _ _ _ _ _ _ (by omega) (λt c ZT=>?_) ZT;rcases hr:dR S (bC S n (b++[nm])) t 201 f [] [] with ⟨made1,x⟩|c1|d;{rw[hr] at ZT;cases ZT}
  ·rw[hr] at ZT;cases ZT
   refine Au (λf nm2 c2 h2=>?_) _ _ _ _ _ hr;have:=i _ _ _ _ h2;rw[cM,DW] at this;omega
  {rw[hr] at ZT;cases ZT}
def lkV (b:List Ent)(c:List Lk):List ZC:=c.flatMap λl=>cQ (lkD b l)
theorem IP (b:List Ent)(c:List Lk):bq (lkF b c) c.length=lkV b c:=by
 unfold bq lkV;rw[show(List.range c.length).map (lkF b c)=c.map (lkD b) from ?_,VW];refine T3 λi=>?_;rw[OH,OH];rcases PR i c.length with ZT|ZT;{rw[List.getElem?_range ZT,gq ZT];simp only[UX];rw[Ct (gq ZT)]};{rw[OT ZT,OT (by simpa using ZT)];rfl}
theorem Ge (b:List Ent)(c:List Lk){k:Nat}(ZT:c[k]?=T l):lkV b (c.take (k+1))=lkV b (c.take k)++cQ (lkD b l):=by rw[T1,ZT];simp[lkV]
theorem IQ (w:M)(c g f b:ZC)(t:ZI):∀j u,[c,g,f,b][j]?=T u->(A w (J #[c,g,f,b] t)).cell? (((Q w.heap.size 0 Y):Addr).add j)=T u:=by
 intro j u ZT;rw[addr_add];match j,ZT with
 |0,ZT=>simp at ZT;subst ZT;simp
 |1,ZT=>simp at ZT;subst ZT;simp
 |2,ZT=>simp at ZT;subst ZT;simp
 |3,ZT=>simp at ZT;subst ZT;simp
 |k+4,ZT=>simp at ZT
theorem DBox.grown{g l i f p v:ZC}{q:List ZC}(ZT:DBox w b g l i f j p)(r:w.ownsRow c e size v n q)(o:w.grownBy m v.ownBlock)(hb:b<c):DBox m b g l i f j p :=
 ZT.ad o.size (o.block b ZT.lt λe=>by have:=(r.lt b e.symm).1;omega)
theorem Dv{r:Nat}{v:ZC}{p:ZI}{i g:List ZC}(ZT:w.ownsRow b e size v n i)(t:w.ownsRow c p f j r g)(s:w.grownBy m j.ownBlock)(o:e≠p):m.ownsRow b e size v n i :=
 dw ZT λk l=>s.block k (ZT.lt k l).2 λq=>(bu ZT k l).ne (WS o) (bu t k q.symm)
theorem JS (w:M)(c l g b i f:ZC)(t:ZI):∀j u,[c,l,g,b,i,f][j]?=T u->(A w (J #[c,l,g,b,i,f] t)).cell? (((Q w.heap.size 0 Y):Addr).add j)=T u:=by
 intro j u ZT;rw[addr_add];match j,ZT with
 |0,ZT=>simp at ZT;subst ZT;simp
 |1,ZT=>simp at ZT;subst ZT;simp
 |2,ZT=>simp at ZT;subst ZT;simp
 |3,ZT=>simp at ZT;subst ZT;simp
 |4,ZT=>simp at ZT;subst ZT;simp
 |5,ZT=>simp at ZT;subst ZT;simp
 |k+6,ZT=>simp at ZT
structure ShAt (B:Nat)(w:M)(hb:Nat)(s0 s1 md or:ZC)(L:List SM)(made:List Ent):Prop where
 lt:hb<w.heap.size
 c0:h w (Q hb 0 Y)=T s0
 c1:h w (Q hb 1 Y)=T s1
 c2:h w (Q hb 2 Y)=T md
 c3:h w (Q hb 3 Y)=T or
 W:w.ownsRow B 198 6 md L.length (L.flatMap smV)
 ror:w.ownsRow B 9 1 or made.length (bW (made.map (·.e)))
 c:∀m∈L,m.done=ZG->w.ownsRow B 201 3 m.sv m.c.length (eG m.c)
theorem ShAt.aa{B C:Nat}{i:M}{hb:Nat}{l o n:ZC}{c:List Ent}(ZT:ShAt B w hb j l o n L c)(b:Below C w i)(g:w.heap.size<=C):ShAt B i hb j l o n L c:=by have f:hb<C:=lj ZT.lt g;exact⟨lj ZT.lt b.size,(b.cell (p:=(Q hb 0 Y)) f).trans ZT.c0,(b.cell (p:=(Q hb 1 Y)) f).trans ZT.c1,(b.cell (p:=(Q hb 2 Y)) f).trans ZT.c2,(b.cell (p:=(Q hb 3 Y)) f).trans ZT.c3,own_below ZT.W b g,own_below ZT.ror b g,λm r q=>own_below (ZT.c m r q) b g⟩
theorem JU{b:List Ent}(ZT:fH L [] b)(g:b[i]?=T x):∃k m,fI L x.e=T k/\L[k]?=T m/\m.e=x.e/\m.done=ZG/\m.E=(dS x).E/\m.B=(dS x).B/\m.c=x.looks:=by obtain⟨m,p,c,n,j,q,f⟩:=ZT.got x (LD g);obtain⟨k,l,o⟩:=rO ZT.nod p c;exact⟨k,m,l,o,c,n,j,q,f⟩
theorem vS{c:List Ent}(h1:fy S x=0)(h2:x.looks=[])(W:M)(b:Nat):DSub W b (iX S c x,Z Y 0 0,Z Y 0 0):=by
 refine⟨?_,?_⟩;{show W.ownsRow b 151 3 (Z Y 0 0) (fy S x) (bJ (S.f1 x.tg).H (fy S x));rw[h1];exact A9 _ _ _ _};{show W.ownsRow b 91 4 (Z Y 0 0) x.looks.length (bq (lkF c x.looks) x.looks.length);rw[h2];exact A9 _ _ _ _}
theorem Gf{b:List Ent}(ZT:PG S [] b)(p:b[i]?=T x)(q:l∈x.looks)(s:l.ask=ZG){D:List Deed}(r:D=(b.take i).map (iX S b)):jP (dF D) l.e i=((pu b l.e:Nat):Int):=by
 obtain⟨y,m,hn,o⟩:=ZT.asked p q s;have c:∀(j:Nat) (z:Ent),j<i->b[j]?=T z->(dF D j).e=z.e:=λj z g hz=>by unfold dF;rw[r,IA,OH,List.getElem?_take_of_lt g,hz];rfl
 unfold jP;refine fQ o ?_ λj g=>?_;{rw[c _ y o m,hn];simp}
 ·have n:=(n8.1 m).1;have hz:b[j]?=T b[j]:=gq (by omega);rw[c j _ (by omega) hz];have f:=PV.1 ZT.nod j _ (by omega) n g;rw[(n8.1 m).2,hn] at f;cases hb:(b[j].e.toList == l.e.toList) with
  |false=>rfl
  |true=>exact absurd (bytes_beq hb) f
theorem Dw{g:Nat}{b:List Lk}(ZT:w.ownsRow f 201 3 (Z (T (Q g 0 Y)) b.length c) b.length (eG b)){k:Nat}(i:b[k]?=T l)(j:Nat)(n:j<3){u:ZC}(m:[Value.string l.e,ZD l.ask,ZD l.has][j]?=T u):h w (Q g (k*3+j) Y)=T u :=
 (cP ZT (j:=k*3+j) (u:=u) (by rw[eG,du (λl:Lk=>[Value.string l.e,ZD l.ask,ZD l.has]) 3 (λ_=>rfl) b k j n l i];exact m)).1
def LkI (S:Spc)(g:List Ent)(x:Ent)(i:Int)(rt:ByteArray)(l:Option Addr)(m n ZT f c4:Nat)(b:M)(al:Option Addr)(k j:Nat)(c:M):Prop:=Hid (DBox c (b.heap.size+1) (U x.e) (N I 3) (N I i) (U rt) (Z (T (Q ZT 0 Y)) f c4) (Z al k j))/\Hid (c.heap[b.heap.size]?=T (J #[U x.e,N I i,U rt,Z Y 0 0,Z l m n,ZD ZG] 198 (0,0)))/\Hid (c.ownsRow (b.heap.size+2) 151 3 (Z (T (Q ZT 0 Y)) f c4) f (bJ (S.f1 x.tg).H f))/\Hid (c.ownsRow (b.heap.size+2) 91 4 (Z al k j) k (lkV g (x.looks.take k)))/\Hid (Below b.heap.size b c)
section
variable {S:Spc}{a0 a1:Option Addr}{c0 c1:Nat}
theorem Av (B:Nat)(w:M)(hb:Nat)(md or:ZC)(L:List SM)(f:List Ent)
  (Lb:ShAt B w hb (Z a0 S.n0 c0) (Z a1 S.n1 c1) md or L f) (hrel:fH L [] f) (Mw:PG S [] f) (ML:f.length<=40201)
  (Mg:SlSource w a0 S.n0 S.f0) (Md:SlTarget w a1 S.n1 S.f1) (Mp:SpcOk S) (Ly:∀i,i<S.n1->cT (S.f1 i)) :
  Calls Pg 72 #[.pointer (T (Q hb 0 Y))] w λe w'=>∃a c R,e=ZF (ZH #[Z a R.length c])/\DRow w' w.heap.size (Z a R.length c) R/\R.map (·.1)=iu S f/\Below w.heap.size w w':=by
 have Ms:=ae Lb;have MG:=ae hrel;have Mm:=ae Mw;have V0:=ae Mg;have V1:=ae Md;have Lg:=ae Mp;have Na:=ae Ly;have MV:L.length<=40201:=by have:=hrel.len;simp only[nX,P6] at this;omega
 obtain⟨am,cm,rfl⟩:=ix Lb.W;obtain⟨ao,co,rfl⟩:=ix Lb.ror;obtain⟨ZO,hN⟩:∃ZO,ZO=L.length:=⟨_,rfl⟩
 obtain⟨n,hn⟩:∃n,n=f.length:=⟨_,rfl⟩
 have ZL:=ae hN;have HN:=ae hn;rw[<-hN,<-hn] at Ms;rw[<-hN] at MV;rw[<-hn] at ML;clear Lb hrel Mw Mg Md Mp Ly hN hn;obtain⟨il,MX,MJ,MA,MH⟩:=OB iC;obtain⟨MZ,MP,MM,MD,MC⟩:=OB fm;have A0:=ae (((q9 w).alloc ly (J #[Z Y 0 0] 37)).alloc (by simp) (J #[Z Y 0 0] 37));have kR:Hid (((A w (J #[Z Y 0 0] 37)).alloc (J #[Z Y 0 0] 37)).heap[w.heap.size]?=T (J #[Z Y 0 0] 37 (0,0))) :=
  ((((dB (w.heap.size+1) _).alloc (by simp) _).block w.heap.size (by omega)).trans (nL w _))
 have kA:Hid (((A w (J #[Z Y 0 0] 37)).alloc (J #[Z Y 0 0] 37)).heap[w.heap.size+1]?=T (J #[Z Y 0 0] 37 (0,0))):=by have h2:=nL (A w (J #[Z Y 0 0] 37)) (J #[Z Y 0 0] 37);rw[show(A w (J #[Z Y 0 0] 37)).heap.size=w.heap.size+1 by simp] at h2;exact h2
 go_enter func72,ntmps72;go_wp2_with fail;generalize World.alloc (World.alloc w _) _=W0 at A0 kR kA ⊢;go_loopw [4] (λv wr=>∃(i:Nat) (O:Option Addr) (c5:Nat) (R:List DR),i<=n/\v=N I i/\R.length=i/\Hid (R.map (·.1)=(f.take i).map (iX S f))/\Hid (DRow wr (w.heap.size+2) (Z O i c5) R)/\Hid (wr.heap[w.heap.size+1]?=T (J #[Z O i c5] 37 (0,0)))/\Hid (wr.heap[w.heap.size]?=T (J #[Z Y 0 0] 37 (0,0)))/\Hid (Below w.heap.size w wr)) (λv _=>n - (intOf v).toNat);case atStart=>exact⟨0,Y,0,[],by omega,rfl,rfl,rfl,cA _ _,kA,kR,A0⟩
 case round =>
  clear kA kR A0;obtain⟨i,O,c5,R,hi,rfl,DS,LX,D4,k4,fd,B4⟩:=hrel;have K:=ae (Ms.aa B4 ly);have hw4:w.heap.size+2<=wr.heap.size:=ai k4.out;have h3:=K.c3;have Mk:=K.lt;by_cases MU:i<n
  ·obtain⟨x,hx⟩:∃x,f[i]?=T x:=⟨_,gq (by rw[<-HN.out];exact MU)⟩
   obtain⟨j,m,hf,hm,e1,e2,e3,e4,e5⟩:=JU MG hx;have DQ:=K.ror;have ZP:=K.W;rw[<-HN.out] at DQ;rw[<-ZL.out] at ZP;obtain⟨go,co',e⟩:=cC DQ (by omega);simp only[OJ,TM] at e;obtain⟨rfl,rfl⟩:=e;have hjN:j<ZO:=by rw[ZL.out];exact(n8.1 hm).1
   obtain⟨o,cm',e⟩:=cC ZP (by omega);simp only[OJ,TM] at e;obtain⟨rfl,rfl⟩:=e;have oc:h wr (Q go i Y)=T (U x.e):=(cP DQ (by rw[bW,OH,OH,hx];rfl)).1;have Nl:=(dN DQ).2;have n9:=(dN ZP).2;have h2:=K.c2;have Fk:=K.c m (LD hm) e2;obtain⟨X,D,Li⟩:=ix Fk;obtain⟨y,Ls⟩:∃y,y=(dS x).E:=⟨_,rfl⟩
   obtain⟨rt,dg⟩:∃rt,rt=(dS x).B:=⟨_,rfl⟩
   obtain⟨r,Lc⟩:∃r,r=x.looks.length:=⟨_,rfl⟩
   rw[e5] at Li Fk;rw[Li,<-Lc] at Fk;have q0:h wr (Q o (j*6) Y)=T (U x.e):=by have:=cE (by rw[<-ZL.out];exact ZP) hm 0 (by omega) rfl;rw[e1] at this;exact this
   have q1:h wr (Q o (j*6+1) Y)=T (N I y):=by have:=cE (by rw[<-ZL.out];exact ZP) hm 1 (by omega) rfl;rw[e3,<-Ls] at this;exact this
   have q2:h wr (Q o (j*6+2) Y)=T (U rt):=by have:=cE (by rw[<-ZL.out];exact ZP) hm 2 (by omega) rfl;rw[e4,<-dg] at this;exact this
   have q3:h wr (Q o (j*6+3) Y)=T (Z Y 0 0):=cE (by rw[<-ZL.out];exact ZP) hm 3 (by omega) rfl;have q4:h wr (Q o (j*6+4) Y)=T (Z X r D):=by have:=cE (by rw[<-ZL.out];exact ZP) hm 4 (by omega) rfl;rw[Li,<-Lc] at this;exact this
   have q5:h wr (Q o (j*6+5) Y)=T (ZD ZG):=by have:=cE (by rw[<-ZL.out];exact ZP) hm 5 (by omega) rfl;rw[e2] at this;exact this
   have ZS:Hid (∀V,Below wr.heap.size wr V->h V (Q hb 2 Y)=T (Z (T (Q o 0 Y)) ZO cm)/\h V (Q hb 3 Y)=T (Z (T (Q go 0 Y)) n co)/\h V (Q go i Y)=T (U x.e)/\h V (Q o (j*6) Y)=T (U x.e)/\h V (Q o (j*6+1) Y)=T (N I y)/\h V (Q o (j*6+2) Y)=T (U rt)/\h V (Q o (j*6+3) Y)=T (Z Y 0 0)/\h V (Q o (j*6+4) Y)=T (Z X r D)/\h V (Q o (j*6+5) Y)=T (ZD ZG)):=λV g=>⟨(g.cell (p:=(Q hb 2 Y)) Mk).trans h2,(g.cell (p:=(Q hb 3 Y)) Mk).trans h3,(g.cell (p:=(Q go i Y)) Nl).trans oc,(g.cell (p:=(Q o _ Y)) n9).trans q0,(g.cell (p:=(Q o _ Y)) n9).trans q1,(g.cell (p:=(Q o _ Y)) n9).trans q2,(g.cell (p:=(Q o _ Y)) n9).trans q3,(g.cell (p:=(Q o _ Y)) n9).trans q4,(g.cell (p:=(Q o _ Y)) n9).trans q5⟩
   have CT:Hid (∀V,Below wr.heap.size wr V->Calls Pg 131 #[.pointer (T (Q hb 0 Y)),U x.e] V λe w'=>e=ZF (N I (j:Int))/\w'=V):=λV g=>by
    have ZT:=K.aa g ly;refine(vK V x.e B ZT.c2 ZT.W (by rw[<-ZL.out];omega)).mono λe w' ⟨he,hw⟩=>⟨?_,hw⟩
    rw[he,hf];rfl
   have HX:=ae hx;have MN:=ae Ls;have Mf:=ae dg;have Fd:=ae Lc;have LV:=ae Fk;have hj0:(0:Int)<=(j:Int):=by omega
   have hjI:(j:Int)<ZO:=by omega
   have hi0:(0:Int)<=(i:Int):=by omega
   have hiI:(i:Int)<n:=by omega
   clear DQ ZP Fk Li hx hf hm e1 e2 e3 e4 e5 Ls dg Lc;go_upto_region 5 with fail;go_cut [5] (λs wx=>s=.pointer (T (Q wr.heap.size 0 Y))/\wx=(A wr (J #[U x.e,N I y,U rt,Z Y 0 0,Z X r D,ZD ZG] 198)).drew);case first =>
    clear h2 h3 oc q0 q1 q2 q3 q4 q5
    go_region_held3 (λV=>h V (Q hb 2 Y)=T (Z (T (Q o 0 Y)) ZO cm)/\h V (Q hb 3 Y)=T (Z (T (Q go 0 Y)) n co)/\h V (Q go i Y)=T (U x.e)/\h V (Q o (j*6) Y)=T (U x.e)/\h V (Q o (j*6+1) Y)=T (N I y)/\h V (Q o (j*6+2) Y)=T (U rt)/\h V (Q o (j*6+3) Y)=T (Z Y 0 0)/\h V (Q o (j*6+4) Y)=T (Z X r D)/\h V (Q o (j*6+5) Y)=T (ZD ZG)) (first|exact ZS _ br|exact ZS _ br.drew|exact ZS _ (br.drew.alloc ly _)|exact ZS _ (br.alloc ly _).drew|exact ZS _ ((((((((q9 wr).drew.alloc ly _).setCell ly _).setCell ly _).setCell ly _).setCell ly _).setCell ly _).setCell ly _)) (first
     |(go_at_call 131;refine(CT _ (by first|exact br.drew|exact dB _ _|exact br.drew.alloc ly _)).mono ?_;rintro e w5 ⟨rfl,rfl⟩))
    all_goals
     go_wp2_with fail;go_meet;exact⟨rfl,rfl⟩
   case rest =>
   obtain⟨rfl,rfl⟩:=hcut;have B5:=ae ((q9 wr).alloc ly (J #[U x.e,N I y,U rt,Z Y 0 0,Z X r D,ZD ZG] 198)).drew;have m5:Hid ((A wr (J #[U x.e,N I y,U rt,Z Y 0 0,Z X r D,ZD ZG] 198)).drew.heap[wr.heap.size]?=T (J #[U x.e,N I y,U rt,Z Y 0 0,Z X r D,ZD ZG] 198 (0,0))):=nL wr _;have Ll:(A wr (J #[U x.e,N I y,U rt,Z Y 0 0,Z X r D,ZD ZG] 198)).drew.heap.size=wr.heap.size+1:=by simp[World.drew]
   clear h2 h3 oc q0 q1 q2 q3 q4 q5 ZS CT;generalize World.drew (World.alloc wr _)=W5 at B5 m5 Ll ⊢;have p0:h W5 (Q wr.heap.size 0 Y)=T (U x.e):=by simp[World.cell?,m5.out]
   obtain⟨W6,Fn⟩:∃W:M,A W5 (J #[U x.e,N I 0,N I 0,U ⟨#[]⟩,Z Y 0 0,Z Y 0 0] 46)=W:=⟨_,rfl⟩
   obtain⟨A6,-,-⟩:=nb1 Fn;have bt:=ae Fn;clear Fn;have B6:=ae (B5.trans (A6.mono B5.size));have X6:Hid (DBox W6 (wr.heap.size+1) (U x.e) (N I 0) (N I 0) (U ⟨#[]⟩) (Z Y 0 0) (Z Y 0 0)):=by
    cases bt.out
    have ZT:=oR W5 (U x.e) (N I 0) (N I 0) (U ⟨#[]⟩) (Z Y 0 0) (Z Y 0 0) 46;rw[Ll] at ZT;exact ZT
   have m6:Hid (W6.heap[wr.heap.size]?=T (J #[U x.e,N I y,U rt,Z Y 0 0,Z X r D,ZD ZG] 198 (0,0))):=by cases bt.out;exact(A6.block _ (by omega)).trans m5
   have Nj:W6.heap.size=wr.heap.size+2:=by cases bt.out;simp[Ll]
   go_upto_region 7 with fail;rw[bt.out];clear bt;clear p0 B5 m5 A6 Ll;have DH:=ae (K.aa B6 ly);have Lv:=ae (B4.trans (B6.mono (by omega)));have ZS:Hid (∀V,Below W6.heap.size W6 V->h V (Q hb 0 Y)=T (Z a0 S.n0 c0)/\h V (Q hb 1 Y)=T (Z a1 S.n1 c1)/\h V (Q wr.heap.size 0 Y)=T (U x.e)):=λV g=>⟨(g.cell (p:=(Q hb 0 Y)) DH.lt).trans DH.c0,(g.cell (p:=(Q hb 1 Y)) DH.lt).trans DH.c1,(g.cell (p:=(Q wr.heap.size 0 Y)) (by show wr.heap.size<_;omega)).trans (by simp[World.cell?,m6.out])⟩
   obtain⟨ZM,hT⟩:∃ZM,ZM=ej (atI (nm1 S.f1) S.n1 x.e):=⟨_,rfl⟩
   have CT:Hid (∀V,Below W6.heap.size W6 V->Calls Pg 52 #[ZH #[Z a0 S.n0 c0,Z a1 S.n1 c1],U x.e] V λe w'=>e=ZF (N I ZM)/\Below V.heap.size V w'):=λV g=>by rw[hT];exact i8 a0 S.n0 c0 a1 S.n1 c1 S.f1 x.e V (by have:=Lg.az;omega) (V1.aa (Lv.trans (g.mono Lv.size)) ly)
   have HT:=ae hT;clear hT
   go_region_held3 (λV=>h V (Q hb 0 Y)=T (Z a0 S.n0 c0)/\h V (Q hb 1 Y)=T (Z a1 S.n1 c1)/\h V (Q wr.heap.size 0 Y)=T (U x.e)) (first|exact ZS _ br|exact ZS _ br.drew|exact ZS _ D7) (first
    |(go_at_call 52;refine(CT _ (by first|exact br.drew|exact dB _ _)).mono ?_;rintro e ZK ⟨rfl,qr⟩;have D7:Hid (Below W6.heap.size W6 ZK):=⟨qr.os,qr.tape,qr.output,qr.size,qr.block⟩;clear qr))
   have B7:=ae (B6.trans (D7.mono B6.size));have X7:=ae (X6.aa D7 X6.lt);have m7:=ae ((D7.block _ (ai m6)).trans m6);have Lz:wr.heap.size+2<=ZK.heap.size:=by have:=D7.size;omega
   have k7:=ae ((B7.block _ (ai k4)).trans k4);have Mq:=ae ((B7.block _ (ai fd)).trans fd);have ph:=ae (K.aa B7 ly);have Le:=ae (B4.trans (B7.mono (by omega)));have Lw:=LD HX.out;have Mo:=ae (Mm.ents x Lw);clear D7 ZS CT X6 m6 DH Lv B6 Nj Lw;go_upto_if 46 with fail;go_cut [8,9] (λ_ _ wx=>∃(aa al:Option Addr) (na nl ca E:Nat),Hid (DBox wx (wr.heap.size+1) (U x.e) (N I x.m) (N I x.E) (U x.B) (Z aa na ca) (Z al nl E))/\Hid (DSub wx wr.heap.size (iX S f x,Z aa na ca,Z al nl E))/\Hid (Below wr.heap.size wr wx));case first =>
    rcases Mo.m with ⟨hk,sm,hlk,si,Mv,LI⟩|⟨hk,sm,LI,hlk,LF,DE⟩|⟨hk,LF,DE⟩
    rotate_left 2
    ·have HK:=ae hk;have Lr:dS x=⟨x.E,x.B,[]⟩:=by unfold dS;rw[gM (by omega)]
     have La:Hid (rt=x.B/\y=x.E):=⟨by rw[Mf.out,Lr],by rw[MN.out,Lr]⟩
     have hns2:r<=200:=by rw[Fd.out];exact Mo.looks
     have Lt:=(cW DE).1;have Lu:ZM=(x.tg:Int):=by rw[HT.out,DE];rfl
     have Me:fy S x=(S.f1 x.tg).f:=by unfold fy;rw[p6 hk]
     obtain⟨ZN,Ld⟩:∃ZN,ZN=(S.f1 x.tg).f:=⟨_,rfl⟩
     have MY:Hid (fy S x=ZN):=Me.trans Ld.symm;have hn4m:ZN<=1048576:=by rw[Ld];exact Na x.tg Lt
     have hn41:1<=ZN:=by obtain⟨_,hv,_⟩:=bP (Lg.H x.tg Lt);omega
     obtain⟨tb,tf,Nf,dg⟩:=V1.resolve_left (by omega);subst Lu Nf;obtain⟨-,ia,ic,th,Mt⟩:=dg.2 x.tg Lt;have LH:=dg.1;obtain⟨ib,io,rfl,LZ⟩:=Mt.resolve_left (by omega);rw[<-Ld] at th LZ;have Nd:=ae LZ;have Mb:=ae th;clear hk Lr Me Ld LF DE dg Mt LZ th;have q1:h ZK (Q wr.heap.size 1 Y)=T (N I y):=by simp[World.cell?,m7.out]
     have q2:h ZK (Q wr.heap.size 2 Y)=T (U rt):=by simp[World.cell?,m7.out]
     obtain⟨d1,Ml⟩:=X7.c1;obtain⟨d2,MR⟩:=X7.c2;obtain⟨d3,Mz⟩:=X7.c3;have Mn:=X7.lt;have htg0:(0:Int)<=(x.tg:Int):=by omega
     have X9:=ae (((X7.set1 (N I 3)).set2 (N I y)).set3 (U rt));have m9:Hid ((((ZK.setCell (Q (wr.heap.size+1) 1 Y) (N I 3)).setCell (Q (wr.heap.size+1) 2 Y) (N I y)).setCell (Q (wr.heap.size+1) 3 Y) (U rt)).heap[wr.heap.size]?=T (J #[U x.e,N I y,U rt,Z Y 0 0,Z X r D,ZD ZG] 198 (0,0))):=(qh _ _ _ _ (show wr.heap.size≠wr.heap.size+1 by omega)).trans ((qh _ _ _ _ (show wr.heap.size≠wr.heap.size+1 by omega)).trans ((qh _ _ _ _ (show wr.heap.size≠wr.heap.size+1 by omega)).trans m7.out));have B9:=ae (((B7.setCell (p:=(Q (wr.heap.size+1) 1 Y)) (F6 _) (N I 3)).setCell (p:=(Q (wr.heap.size+1) 2 Y)) (F6 _) (N I y)).setCell (p:=(Q (wr.heap.size+1) 3 Y)) (F6 _) (U rt));have Mr:wr.heap.size+2<=(((ZK.setCell (Q (wr.heap.size+1) 1 Y) (N I 3)).setCell (Q (wr.heap.size+1) 2 Y) (N I y)).setCell (Q (wr.heap.size+1) 3 Y) (U rt)).heap.size:=by simpa using Lz
     go_upto_region 12 with fail;generalize World.setCell (World.setCell (World.setCell ZK _ _) _ _) _ _=W9 at X9 m9 B9 Mr ⊢;clear d1 Ml d2 MR d3 Mz q1 q2 Mn X7 m7 B7 k7 Mq ph Le Lz;have JT:=ae (B4.trans (B9.mono (by omega)));have LG:=ae (K.aa B9 ly);have Nk:=LG.c1;have ME:=LG.lt;have tc:=(JT.cell (p:=(Q tb (tf+x.tg*2+1) Y)) LH).trans Mb;have MK:tb<W9.heap.size:=lj LH JT.size;have htgI:(x.tg:Int)<(S.n1:Int):=by omega
     go_wp2_with fail;refine(jm ib io ZN ic (S.f1 x.tg).H W9 (by omega) (Nd.aa JT ly)).mono ?_;rintro e Mh ⟨g4,c4,rfl,Lm,ro⟩;have Lj:=ae (X9.aa ro X9.lt);obtain⟨d4,Ng⟩:=Lj.c4;have Lp:=ae (Lj.set4 (Z (T (Q g4 0 Y)) ZN c4));have LP:Hid ((Mh.setCell (Q (wr.heap.size+1) 4 Y) (Z (T (Q g4 0 Y)) ZN c4)).heap[wr.heap.size]?=T (J #[U x.e,N I y,U rt,Z Y 0 0,Z X r D,ZD ZG] 198 (0,0))):=(qh _ _ _ _ (show wr.heap.size≠wr.heap.size+1 by omega)).trans ((ro.block _ (ai m9)).trans m9);have LU:=ae (aQ (R:=wr.heap.size+1) (j:=4) (aB Lm (show wr.heap.size+2<=W9.heap.size by omega)) (by omega) (Z (T (Q g4 0 Y)) ZN c4));have LQ:=ae ((B9.trans (ro.mono B9.size)).setCell (p:=(Q (wr.heap.size+1) 4 Y)) (F6 _) (Z (T (Q g4 0 Y)) ZN c4));have Mc:=Lj.lt;clear Lm ro tc Nk;go_wp2;generalize World.setCell Mh _ _=W11 at Lp LP LU LQ ⊢;clear d4 Ng Lj Mc X9 m9 B9 JT LG ME MK Mr;obtain⟨t,Ni⟩:∃t,t=wr:=⟨_,rfl⟩
     subst Ni;go_loopw [8] (λv wq=>∃(k:Nat) (al:Option Addr) (E:Nat),k<=r/\v=N I k/\LkI S f x y rt X r D g4 ZN c4 t al k E wq) (λv _=>r - (intOf v).toNat);case atStart=>exact⟨0,Y,0,by omega,rfl,Lp,LP,LU,A9 _ _ _ _,LQ⟩
     case round =>
      clear Lp LP LU LQ;obtain⟨k,al,E,hk,rfl,Lf,L9,Lq,Lo,ur⟩:=hrel;have m4:h wr (Q t.heap.size 4 Y)=T (Z X r D):=by simp[World.cell?,L9.out]
      have ml:=ai L9.out;have hz12:t.heap.size+2<=wr.heap.size:=Lf.lt;by_cases hlk:k<r
      ·obtain⟨l,hl⟩:∃l,x.looks[k]?=T l:=⟨_,gq (by rw[<-Fd.out];exact hlk)⟩
       obtain⟨H,sc',e⟩:=cC LV (by omega);simp only[OJ,TM] at e;obtain⟨rfl,rfl⟩:=e;have Mi:=(dN LV).2;have sn:∀j,j<3->∀u,[Value.string l.e,ZD l.ask,ZD l.has][j]?=T u->h wr (Q H (k*3+j) Y)=T u:=λj hj u hu=>(ur.cell (p:=(Q H (k*3+j) Y)) Mi).trans (Dw (by have ZT:=LV.out;rw[Fd.out] at ZT;exact ZT) hl j hj hu);have f0:=sn 0 (by omega) _ rfl;have f1:=sn 1 (by omega) _ rfl;have f2:=sn 2 (by omega) _ rfl;rw[show k*3+0=k*3 by omega] at f0;have GS:H<wr.heap.size:=lj Mi ur.size;have HL:=ae hl;have ZS:Hid (∀V,Below wr.heap.size wr V->h V (Q t.heap.size 4 Y)=T (Z (T (Q H 0 Y)) r D)/\h V (Q H (k*3) Y)=T (U l.e)/\h V (Q H (k*3+1) Y)=T (ZD l.ask)/\h V (Q H (k*3+2) Y)=T (ZD l.has)):=λV g=>⟨(g.cell (p:=(Q t.heap.size 4 Y)) ml).trans m4,(g.cell (p:=(Q H _ Y)) GS).trans f0,(g.cell (p:=(Q H _ Y)) GS).trans f1,(g.cell (p:=(Q H _ Y)) GS).trans f2⟩
       have hk0:(0:Int)<=(k:Int):=by omega
       have hkI:(k:Int)<r:=by omega
       clear sn hl;go_upto_region 16 with fail;go_cut [9] (λs wx=>s=.pointer (T (Q wr.heap.size 0 Y))/\wx=(A wr (J #[U l.e,ZD l.ask,ZD l.has,N I 0] 91)).drew);case first =>
        clear m4 f0 f1 f2;go_region_held3 (λV=>h V (Q t.heap.size 4 Y)=T (Z (T (Q H 0 Y)) r D)/\h V (Q H (k*3) Y)=T (U l.e)/\h V (Q H (k*3+1) Y)=T (ZD l.ask)/\h V (Q H (k*3+2) Y)=T (ZD l.has)) (first|exact ZS _ br|exact ZS _ br.drew|exact ZS _ (br.drew.alloc ly _)|exact ZS _ (br.alloc ly _).drew|exact ZS _ ((((((q9 wr).drew.alloc ly _).setCell ly _).setCell ly _).setCell ly _).setCell ly _)) (fail);all_goals
         go_wp2_with fail;go_meet;exact⟨rfl,rfl⟩
       case rest =>
       obtain⟨rfl,rfl⟩:=hcut;have mv:=ae ((q9 wr).alloc ly (J #[U l.e,ZD l.ask,ZD l.has,N I 0] 91)).drew;have ZR:Hid ((A wr (J #[U l.e,ZD l.ask,ZD l.has,N I 0] 91)).drew.heap[wr.heap.size]?=T (J #[U l.e,ZD l.ask,ZD l.has,N I 0] 91 (0,0))):=nL wr _;clear m4 f0 f1 f2 ZS;generalize World.drew (World.alloc wr _)=ZJ at mv ZR ⊢;have KZ:=ae (Lf.aa mv Lf.lt);have Lh:=ae ((mv.block _ ml).trans L9);have Lx:=ae (own_below Lq mv ly);have Ln:=ae (own_below Lo mv ly);have ld:=ae (ur.trans (mv.mono ur.size));have k1:h ZJ (Q wr.heap.size 1 Y)=T (ZD l.ask):=by simp[World.cell?,ZR.out]
       go_upto_if 94 with fail;clear k1;go_cut [] (λwx=>∃q:Int,Hid (cQ (lkD f l)=[U l.e,ZD l.ask,ZD l.has,N I q])/\Hid (wx.heap[wr.heap.size]?=T (J #[U l.e,ZD l.ask,ZD l.has,N I q] 91 (0,0)))/\LkI S f x y rt (T (Q H 0 Y)) r D g4 ZN c4 t al k E wx);case first =>
        cases hask:l.ask with
        |false =>go_wp2;go_meet;exact⟨0,by show _=_;simp[cQ,lkD,hask],ZR,KZ,Lh,Lx,Ln,ld⟩
        |true =>
         obtain⟨q,hq⟩:∃q:Int,q=((pu f l.e:Nat):Int):=⟨_,rfl⟩
         have Mj:=ae ((ld.block _ (ai k4)).trans k4);have ac:h ZJ (Q (w.heap.size+1) 0 Y)=T (Z O i c5):=by simp[World.cell?,Mj.out]
         have acl:=ai Mj.out;have M5:h ZJ (Q wr.heap.size 0 Y)=T (U l.e):=by simp[World.cell?,ZR.out]
         have CA:Hid (Calls Pg 62 #[ZH #[Z O i c5],U l.e] ZJ λe w'=>e=ZF (N I q)/\Below ZJ.heap.size ZJ w'):=by
          have hd:SlDeed ZJ O i (dF (R.map (·.1))):=by have ZT:=D4.aa ld.out ly;rw[<-DS] at ZT ⊢;exact ZT.am
          have ZT:=DZ O i c5 (dF (R.map (·.1))) l.e ZJ (by omega) hd;rw[Gf Mm.out HX.out (LD HL.out) hask LX.out,<-hq] at ZT;exact ZT
         have HQ:=ae hq;clear hq;go_wp2_with fail;refine CA.mono ?_;rintro e Id ⟨rfl,P⟩;have Fm:=(P.block _ (ai ZR)).trans ZR;have q3:h Id (Q wr.heap.size 3 Y)=T (N I 0):=by simp[World.cell?,Fm]
         have qf3:Id.frozen? (Q wr.heap.size 3 Y)=ZA:=by simp[World.frozen?,Fm]
         have ql3:=ai Fm;have ZQ:Hid ((Id.setCell (Q wr.heap.size 3 Y) (N I q)).heap[wr.heap.size]?=T (J #[U l.e,ZD l.ask,ZD l.has,N I q] 91 (0,0))):=ay Fm _;have aq:=ae ((KZ.aa P KZ.lt).far (p:=(Q wr.heap.size 3 Y)) (by show wr.heap.size≠t.heap.size+1;omega) (N I q));have Bk:Hid ((Id.setCell (Q wr.heap.size 3 Y) (N I q)).heap[t.heap.size]?=T (J #[U x.e,N I y,U rt,Z Y 0 0,Z (T (Q H 0 Y)) r D,ZD ZG] 198 (0,0))):=(qh _ _ _ _ (show t.heap.size≠wr.heap.size by omega)).trans ((P.block _ (ai Lh)).trans Lh);have Hx:=ae (aA (own_below Lx P ly) (b:=wr.heap.size) (λe=>by have:=(Lq.lt _ e).2;omega) 3 (N I q));have KV:=ae (aA (own_below Ln P ly) (b:=wr.heap.size) (λe=>by have:=(Lo.lt _ e).2;omega) 3 (N I q));have At:=ae ((ld.trans (P.mono ld.size)).setCell (p:=(Q wr.heap.size 3 Y)) (by show t.heap.size<=wr.heap.size;omega) (N I q));clear Fm P ac M5;go_wp2;go_meet;exact⟨q,by show _=_;simp[cQ,lkD,hask,HQ.out],ZQ,aq,Bk,Hx,KV,At⟩
       case rest =>
       obtain⟨q,Nc,ZQ,aq,Bk,Hx,KV,At⟩:=hcut;clear ZR KZ Lh Lx Ln ld;generalize wc=G at ZQ aq Bk Hx KV At ⊢;have l0:h G (Q wr.heap.size 0 Y)=T (U l.e):=by simp[World.cell?,ZQ.out]
       have l1:h G (Q wr.heap.size 1 Y)=T (ZD l.ask):=by simp[World.cell?,ZQ.out]
       have l2:h G (Q wr.heap.size 2 Y)=T (ZD l.has):=by simp[World.cell?,ZQ.out]
       have l3:h G (Q wr.heap.size 3 Y)=T (N I q):=by simp[World.cell?,ZQ.out]
       have ll:=ai ZQ.out;obtain⟨e5,ef5⟩:=aq.c5;have AL:=ae ((q9 G).alloc ly (J #[U l.e,ZD l.ask,ZD l.has,N I q] 91));have XA:=ae (aq.aa AL aq.lt);have mA:=ae ((AL.block _ (ai Bk)).trans Bk);have OA:=ae (own_below Hx AL ly);have PA:=ae (own_below KV AL ly);have BA:=ae (At.trans (AL.mono At.size));have MW:(A G (J #[U l.e,ZD l.ask,ZD l.has,N I q] 91)).heap.size=G.heap.size+1:=by simp
       have hzW:t.heap.size+2<=G.heap.size:=aq.lt;go_wp2_with (at_builtin;refine BS _ rfl (.tmp 101) (.tmp 103) 44 rfl (t.heap.size+2) 91 il (ZH #[U ⟨#[]⟩,ZD ZA,ZD ZA,N I 0]) 4 32 Q2 MX MJ MA MH rfl (by decide) (Z al k E) k (lkV f (x.looks.take k)) (by simp[Act.eval]) PA.out (Q G.heap.size 0 Y) 1 1 [U l.e,ZD l.ask,ZD l.has,N I q] (by simp[Act.eval]) rfl (IQ G _ _ _ _ _) (by simp[Value.oneCell']) (by unfold maxLen;omega) (by omega) (by omega) ?_;intro v' wz F C _;obtain⟨az,cz,rfl⟩:=ix F;rw[<-Nc.out,<-Ge f x.looks HL.out] at F;have PZ:=ae F;have GZ:=ae C;have XZ:=ae (XA.grown PA C (AI _));obtain⟨z5,zf5⟩:=XZ.c5;have zl:=XZ.lt;clear F C);have XY:=ae (XZ.set5 (Z az (k+1) cz));have mY:Hid ((wz.setCell (Q (t.heap.size+1) 5 Y) (Z az (k+1) cz)).heap[t.heap.size]?=T (J #[U x.e,N I y,U rt,Z Y 0 0,Z (T (Q H 0 Y)) r D,ZD ZG] 198 (0,0))):=(qh _ _ _ _ (show t.heap.size≠t.heap.size+1 by omega)).trans ((GZ.block _ (ai mA) (λe=>by have:=(PA.lt _ e.symm).1;omega)).trans mA);have OY:=ae (aQ (R:=t.heap.size+1) (j:=5) (Dv OA PA GZ (by decide)) (by omega) (Z az (k+1) cz));have PY:=ae (aQ (R:=t.heap.size+1) (j:=5) PZ (by omega) (Z az (k+1) cz));have BY:=ae ((bg BA GZ (by omega) (λj e=>by have:=(PA.lt j e).1;omega)).setCell (p:=(Q (t.heap.size+1) 5 Y)) (F6 _) (Z az (k+1) cz));exact⟨⟨k+1,az,cz,by omega,by go_num,XY,mY,OY,PY,BY⟩,by simp[intOf];omega⟩
      ·have e:k=r:=by omega
       subst e;have XT:Hid (DBox wr (t.heap.size+1) (U x.e) (N I x.m) (N I x.E) (U x.B) (Z (T (Q g4 0 Y)) ZN c4) (Z al k E)):=by show DBox _ _ _ _ _ _ _ _;rw[HK.out,<-La.1,<-La.2];exact Lf
       have ST:Hid (DSub wr t.heap.size (iX S f x,Z (T (Q g4 0 Y)) ZN c4,Z al k E)):=by
        refine⟨?_,?_⟩;{show World.ownsRow wr t.heap.size 151 3 (Z (T (Q g4 0 Y)) ZN c4) (fy S x) (bJ (S.f1 x.tg).H (fy S x));rw[MY.out];exact aB Lq (by omega)};{show World.ownsRow wr t.heap.size 91 4 (Z al k E) x.looks.length (bq (lkF f x.looks) x.looks.length);rw[IP,<-Fd.out];have ZT:=Lo.out;rw[IU (by rw[<-Fd.out];exact n6 _)] at ZT;exact aB ZT (by omega)}
       go_wp2;go_meet;exact⟨_,_,_,_,_,_,XT,ST,ur⟩
    all_goals
     obtain⟨z,hz⟩:∃z,z=ej (atI (nm0 S.f0) S.n0 x.e):=⟨_,rfl⟩
     have HK:=ae hk;have Mx:=ae sm;have MO:=ae LI;have ZS:Hid (∀V,Below ZK.heap.size ZK V->h V (Q hb 0 Y)=T (Z a0 S.n0 c0)/\h V (Q hb 1 Y)=T (Z a1 S.n1 c1)/\h V (Q wr.heap.size 0 Y)=T (U x.e)):=λV g=>⟨(g.cell (p:=(Q hb 0 Y)) ph.lt).trans ph.c0,(g.cell (p:=(Q hb 1 Y)) ph.lt).trans ph.c1,(g.cell (p:=(Q wr.heap.size 0 Y)) (by show wr.heap.size<_;omega)).trans (by simp[World.cell?,m7.out])⟩
     have CT:Hid (∀V,Below ZK.heap.size ZK V->Calls Pg 51 #[ZH #[Z a0 S.n0 c0,Z a1 S.n1 c1],U x.e] V λe w'=>e=ZF (N I z)/\Below V.heap.size V w'):=λV g=>by rw[hz];exact iZ a0 S.n0 c0 a1 S.n1 c1 S.f0 x.e V (by have:=Lg.az;omega) (V0.aa (Le.trans (g.mono Le.size)) ly)
     have HZ:=ae hz;have Lu:ZM=-1:=by rw[HT.out,show atI (nm1 S.f1) S.n1 x.e=Y by first|exact DE|exact oN Lg.out Mv];rfl
     subst Lu;clear hk sm LI hz;go_wp2_with fail
     go_region_held3 (λV=>h V (Q hb 0 Y)=T (Z a0 S.n0 c0)/\h V (Q hb 1 Y)=T (Z a1 S.n1 c1)/\h V (Q wr.heap.size 0 Y)=T (U x.e)) (first|exact ZS _ br|exact ZS _ br.drew|exact ZS _ D8) (first
      |(go_at_call 51;refine(CT _ (by first|exact br.drew|exact dB _ _)).mono ?_;rintro e w8 ⟨rfl,la⟩;have D8:Hid (Below ZK.heap.size ZK w8):=⟨la.os,la.tape,la.output,la.size,la.block⟩;clear la))
     have X8:=ae (X7.aa D8 X7.lt);have B8:=ae (B7.trans (D8.mono B7.size));obtain⟨d1,Ml⟩:=X8.c1;have Mn:=X8.lt
    ·obtain rfl:z=(si:Int):=by rw[HZ.out,Mv];rfl
     have La:Hid (rt=x.B):=by show rt=x.B;rw[Mf.out];unfold dS;rw[gM (by rw[HK.out];decide)]
     have hsi0:(0:Int)<=(si:Int):=by omega
     obtain⟨d3,Mz⟩:=X8.c3;have m8:=(D8.block _ (ai m7)).trans m7;have q2:h w8 (Q wr.heap.size 2 Y)=T (U rt):=by simp[World.cell?,m8]
     have BT:=ae ((B8.setCell (p:=(Q (wr.heap.size+1) 1 Y)) (F6 _) (N I 1)).setCell (p:=(Q (wr.heap.size+1) 3 Y)) (F6 _) (U rt));clear m8;go_wp2;go_meet;exact⟨Y,Y,0,0,0,0,(by show DBox _ _ _ _ _ _ _ _;rw[HK.out,Mx.out,<-La.out];exact(X8.set1 _).set3 _),vS (by unfold fy;rw[gM (by rw[HK.out];decide)]) hlk _ _,BT⟩
    ·obtain rfl:z=-1:=by rw[HZ.out,LF];rfl
     have BT:=ae (B8.setCell (p:=(Q (wr.heap.size+1) 1 Y)) (F6 _) (N I 2));go_wp2;go_meet;exact⟨Y,Y,0,0,0,0,(by show DBox _ _ _ _ _ _ _ _;rw[HK.out,Mx.out,MO.out];exact X8.set1 _),vS (by unfold fy;rw[gM (by rw[HK.out];decide)]) hlk _ _,BT⟩
   case rest =>
   obtain⟨aa,al,na,nl,ca,E,XT,ST,BT⟩:=hcut;have kT:=ae ((BT.block _ (ai k4)).trans k4);have LJ:=ae ((BT.block _ (ai fd)).trans fd);clear X7 m7 k7 Mq ph Le B7 Lz;generalize wc=W8 at XT ST BT kT LJ ⊢;obtain⟨t0,_⟩:=XT.c0;obtain⟨t1,_⟩:=XT.c1;obtain⟨t2,_⟩:=XT.c2;obtain⟨t3,_⟩:=XT.c3;obtain⟨t4,_⟩:=XT.c4;obtain⟨t5,_⟩:=XT.c5;have kc:h W8 (Q (w.heap.size+1) 0 Y)=T (Z O i c5):=by simp[World.cell?,kT.out]
   have AL:=ae ((q9 W8).alloc ly (J #[U x.e,N I x.m,N I x.E,U x.B,Z aa na ca,Z al nl E] 46));have DA:=ae (D4.aa (BT.trans (AL.mono BT.size)) ly);have SA:=ae (ST.aa AL ly);have kA:=ae ((AL.block _ (ai kT)).trans kT);have My:=ae ((AL.block _ (ai LJ)).trans LJ);have BA:=ae (B4.trans ((BT.trans (AL.mono BT.size)).mono (by omega)));have OW:Hid (World.ownsRow (A W8 (J #[U x.e,N I x.m,N I x.E,U x.B,Z aa na ca,Z al nl E] 46)) (w.heap.size+2) 46 6 (Z O i c5) i (R.flatMap ddV)):=by have ZT:=DA.i;rw[DS] at ZT;exact ZT
   have Ma:Hid (∀j,(Value.slice O i c5).ownBlock=T j->w.heap.size+2<=j):=λj e=>(OW.lt j e).1;have MW:(A W8 (J #[U x.e,N I x.m,N I x.E,U x.B,Z aa na ca,Z al nl E] 46)).heap.size=W8.heap.size+1:=by simp
   have hzT:=BT.size;go_wp2_with (at_builtin;refine BS _ rfl (.tmp 121) (.tmp 123) 35 rfl (w.heap.size+2) 46 MZ (ZH #[U ⟨#[]⟩,N I 0,N I 0,U ⟨#[]⟩,Z Y 0 0,Z Y 0 0]) 6 96 PF MP MM MD MC rfl (by decide) (Z O i c5) i (R.flatMap ddV) (by simp[Act.eval]) OW.out (Q W8.heap.size 0 Y) 1 1 [U x.e,N I x.m,N I x.E,U x.B,Z aa na ca,Z al nl E] (by simp[Act.eval]) rfl (JS W8 _ _ _ _ _ _ _) (by simp[Value.oneCell']) (by unfold maxLen;omega) (by omega) (by omega) ?_;intro v' w9 F C _;obtain⟨a7,c7,rfl⟩:=ix F;have O9:=ae F;have G9:=ae C;have k9:=ae ((C.block _ (ai kA) (λe=>by have:=Ma.out _ e.symm;omega)).trans kA);have g9:h w9 (Q (w.heap.size+1) 0 Y)=T (Z O i c5):=(by simp[World.cell?,k9.out]);have f9:w9.frozen? (Q (w.heap.size+1) 0 Y)=ZA:=(by simp[World.frozen?,k9.out]);have l9:=ai k9.out;clear F C);have D9:Hid (DRow w9 (w.heap.size+2) (Z a7 (i+1) c7) (R++[(iX S f x,Z aa na ca,Z al nl E)])):=DRow.more D4 DA (by omega) SA (by rw[DS];exact O9) G9;have MS:=ae ((G9.block _ (ai My) (λe=>by have:=Ma.out _ e.symm;omega)).trans My);have B9:=ae (bg BA G9 (by omega) (λj e=>by have:=Ma.out j e;omega));have MQ:=ae (D9.set (p:=(Q (w.heap.size+1) 0 Y)) (e:=37) (.inl (AI _)) (Z a7 (i+1) c7));have Nm:Hid ((w9.setCell (Q (w.heap.size+1) 0 Y) (Z a7 (i+1) c7)).heap[w.heap.size+1]?=T (J #[Z a7 (i+1) c7] 37 (0,0))):=ay k9 _;have MF:Hid ((w9.setCell (Q (w.heap.size+1) 0 Y) (Z a7 (i+1) c7)).heap[w.heap.size]?=T (J #[Z Y 0 0] 37 (0,0))):=(qh _ _ _ _ (show w.heap.size≠w.heap.size+1 by omega)).trans MS.out;have Nh:=ae (B9.setCell (p:=(Q (w.heap.size+1) 0 Y)) (F6 _) (Z a7 (i+1) c7));refine⟨⟨i+1,a7,c7,_,by omega,by go_num,by rw[cM,DS];rfl,?_,MQ,Nm,MF,Nh⟩,by simp[intOf];omega⟩;show(R++[((iX S f x,Z aa na ca,Z al nl E):DR)]).map (·.1)=_;rw[DN,LX.out,T1,HX.out];simp
  ·have e:i=n:=by omega
   subst e;have Nb:h wr (Q w.heap.size 0 Y)=T (Z Y 0 0):=by simp[World.cell?,fd.out]
   have rf0:wr.frozen? (Q w.heap.size 0 Y)=ZA:=by simp[World.frozen?,fd.out]
   have rl0:=ai fd.out;have ac0:h wr (Q (w.heap.size+1) 0 Y)=T (Z O i c5):=by simp[World.cell?,k4.out]
   have al0:=ai k4.out;go_wp2;refine bp (v:=ZH #[Z O i c5]) (by simp[results,results72,go_sem,Nb]) rfl ?_;subst DS;refine⟨O,c5,R,rfl,?_,?_,?_⟩;{exact(D4.set (p:=(Q w.heap.size 0 Y)) (e:=37) (.inl (show w.heap.size<w.heap.size+2 by omega)) _).mono (by omega)};{rw[LX.out,IU (by rw[<-HN.out];exact n6 _)];rfl};{exact B4.setCell (p:=(Q w.heap.size 0 Y)) ly _}
end
def vT (w:M)(S:Spc)(b:List Ent × kZ)(e:Ending)(f:M):Prop:=∃a c R g,e=ZF (.tuple #[ZH #[Z a R.length c],g])/\DRow f w.heap.size (Z a R.length c) R/\R.map (·.1)=iu S b.1/\ub w f b.2 g/\Below w.heap.size w f
section
variable {S:Spc}{a0 a1:Option Addr}{c0 c1:Nat}
theorem vU (w:M)(nm:ByteArray)(u:SlSource w a0 S.n0 S.f0)(r:SlTarget w a1 S.n1 S.f1)(hn0:S.n0<=1048576)(hn1:S.n1<=1048576)(n:∀i,i<S.n1->cT (S.f1 i))(B:∀i,i<S.n1->∀j,j<(S.f1 i).f->((S.f1 i).H j).s.size<=maxLen)(l:¬ (ce S.n0 S.f0 S.n1 S.f1=0/\aw nm=ZG)):Calls Pg 21 #[ZH #[Z a0 S.n0 c0,Z a1 S.n1 c1],U nm] w λe ZR=>vT w S ([],⟨9,⟨#[]⟩,[]⟩) e ZR:=by
 have y:=ae (λ(o:M) (b:Hid (Below w.heap.size w o))=>fC a0 S.n0 c0 S.f0 a1 S.n1 c1 S.f1 o (by omega) (by omega) (u.aa b ly) (r.aa b ly) n B);obtain⟨x,t⟩:∃x,x=ce S.n0 S.f0 S.n1 S.f1:=⟨_,rfl⟩
 rw[<-t] at y l;have D:=ae l;clear u r n B t l hn0 hn1;go_enter func21,ntmps21;go_wp2_with fail;generalize C:World.alloc (World.alloc (World.alloc w _) _) _=o;obtain⟨b,ZQ,g,c,-⟩:=nb3 C;replace c:Hid (o.heap[w.heap.size+1+1]?=_):=c;clear C;refine(y o b).mono ?_;clear y;rintro e ZS ⟨rfl,f⟩;replace b:=ae (b.trans (f.mono b.size));replace g:=ae ((f.block _ (ai g)).trans g);replace c:=ae ((f.block _ (ai c)).trans c);clear f ZQ;by_cases G:x=0;case' pos =>
  have E:Hid (aw nm=ZA):=by
   cases ZT:aw nm with
   |false=>rfl
   |true=>exact absurd ⟨G,ZT⟩ D
  subst G;go_wp2_with fail;refine(dc nm ZS).mono ?_;rintro e z ⟨F,f⟩;rw[E.out] at F;subst F;replace b:=ae (b.trans (f.mono b.size));replace g:=ae ((f.block _ (ai g)).trans g);replace c:=ae ((f.block _ (ai c)).trans c);clear f
 case' neg =>
  obtain⟨z,K⟩:∃v,v=ZS:=⟨_,rfl⟩
  subst K
 all_goals
  have H:=b;have m:=g.out;obtain⟨rl,r0,r1,L,q⟩:=bv c.out;have rf0:=q 0;have rf1:=q 1;have rf2:=q 2;have ZP:h z (Q (w.heap.size+1) 0 Y)=T (Z Y 0 0):=by simp[World.cell?,m]
  have pf0:z.frozen? (Q (w.heap.size+1) 0 Y)=ZA:=by simp[World.frozen?,m]
  have pl:=ai m;clear q m g c;go_wp2_with fail;refine bp (v:=.tuple #[ZH #[Z Y 0 0],ZH #[N I 9,U ⟨#[]⟩,Z Y 0 0]]) (by simp[results,results21,go_sem,ZP,r0,r1,L]) rfl ⟨Y,0,[],_,rfl,cA _ _,rfl,Du _ _ _ _,?_⟩;exact(((H.setCell (p:=(Q (w.heap.size+1) 0 Y)) (F6 _) _).setCell (p:=(Q (w.heap.size+1+1) 0 Y)) (by show w.heap.size<=w.heap.size+1+1;omega) _).setCell (p:=(Q (w.heap.size+1+1) 1 Y)) (by show w.heap.size<=w.heap.size+1+1;omega) _).setCell (p:=(Q (w.heap.size+1+1) 2 Y)) (by show w.heap.size<=w.heap.size+1+1;omega) _
theorem xD (w:M)(nm:ByteArray)(fd:SlSource w a0 S.n0 S.f0)(bt:SlTarget w a1 S.n1 S.f1)(hn0:S.n0<=1048576)(hn1:S.n1<=1048576)(ZM:∀i,i<S.n1->cT (S.f1 i))(hs:∀i,i<S.n1->∀j,j<(S.f1 i).f->((S.f1 i).H j).s.size<=maxLen)(h1:ce S.n0 S.f0 S.n1 S.f1=0)(h2:aw nm=ZG):Calls Pg 21 #[ZH #[Z a0 S.n0 c0,Z a1 S.n1 c1],U nm] w λe w'=>vT w S (ci S nm) e w':=by
 have HC:=ae (λ(W0:M) (ZK:Hid (Below w.heap.size w W0))=>fC a0 S.n0 c0 S.f0 a1 S.n1 c1 S.f1 W0 (by omega) (by omega) (fd.aa ZK ly) (bt.aa ZK ly) ZM hs);have V0:=ae fd;have V1:=ae bt;have Lb:=ae ZM;have DE:=ae (SpcOk.of h1);have H1:=ae h1;have H2:=ae h2;rw[h1] at HC;obtain⟨bb,P⟩:∃bb,bb=ci S nm:=⟨_,rfl⟩
 obtain⟨la,o,-⟩:=qD S nm;rw[<-P] at la o ⊢;unfold ci at P;rw[p6 ⟨h1,h2⟩] at P;have aq:=ae P;have KV:=ae la;have Fm:=ae o;clear fd bt ZM hs hn0 hn1 h1 h2 P la o;go_enter func21,ntmps21;go_wp2_with fail;generalize hW:World.alloc (World.alloc (World.alloc w _) _) _=W0;obtain⟨ZK,kS,kA,kR,-⟩:=nb3 hW;replace kR:Hid (W0.heap[w.heap.size+1+1]?=_):=kR;clear hW;refine(HC W0 ZK).mono ?_;clear HC;rintro e w1 ⟨rfl,n⟩;have B1:=ae (ZK.trans (n.mono ZK.size));have Bk:=ae ((n.block _ (ai kA)).trans kA);have DH:=ae ((n.block _ (ai kR)).trans kR);have DQ:=ae ((n.block _ (ai kS)).trans kS);clear n;go_wp2_with fail;refine(dc nm w1).mono ?_;rintro e ZJ ⟨he,n⟩;rw[H2.out] at he;subst he;have B2:=ae (B1.trans (n.mono B1.size));have Fd:=ae ((n.block _ (ai Bk)).trans Bk);have ro:=ae ((n.block _ (ai DH)).trans DH);have ld:=ae ((n.block _ (ai DQ)).trans DQ);have hsl:w.heap.size<ZJ.heap.size:=ai ld.out;have q0:h ZJ (Q w.heap.size 0 Y)=T (Z a0 S.n0 c0):=by simp[World.cell?,ld.out]
 have q1:h ZJ (Q w.heap.size 1 Y)=T (Z a1 S.n1 c1):=by simp[World.cell?,ld.out]
 clear n;go_wp2_with fail;refine(xB ZJ ⟨V0.aa B2 ly,V1.aa B2 ly,DE⟩ nm H2).mono ?_;rintro e f ⟨hb,rfl,l,n⟩;have B3:=ae (B2.trans (n.mono B2.size));have t:=ae ((n.block _ (ai Fd)).trans Fd);have q:=ae ((n.block _ (ai ro)).trans ro);clear q0 q1 n;have H:w.heap.size<=f.heap.size:=B3.size;have D:=xC S 60 [] [] nm;rcases hl:bC S 60 [] [] nm with ⟨y,x⟩|c|d
 ·rw[hl] at l;obtain⟨r,m⟩:∃r,r=dS x:=⟨_,rfl⟩
  have e:bb=(y,r):=by rw[aq.out,hl,m]
  subst e;obtain⟨L,md,or,st,g,th,ur,DS,hrel⟩:=l;obtain⟨ZO,b0,b1,b2,b3,-,b5,b6,b7,b8,-⟩:=g.K;have GS:Hid (ShAt ZJ.heap.size f hb (Z a0 S.n0 c0) (Z a1 S.n1 c1) md or L y):=⟨ZO,b0,b1,b2,b3,th,ur,DS⟩
  have Fk:=ae hrel;have ph:r.j=[]:=by rw[m];unfold dS;split<;>rfl
  rw[<-m] at b5 b6;have dg:=ae ph;have SQ:Hid (∀V:M,V.heap[hb]?=f.heap[hb]?->h V (Q hb 5 Y)=T (N I r.E)/\h V (Q hb 6 Y)=T (U r.B)/\h V (Q hb 7 Y)=T (Z Y 0 0)):=λV ZT=>⟨(cq (a:=(Q hb 5 Y)) ZT).trans b5,(cq (a:=(Q hb 6 Y)) ZT).trans b6,(cq (a:=(Q hb 7 Y)) ZT).trans b7⟩
  have W:hb≠w.heap.size+1:=λe=>by have:=ar g (e ▸ t.out);exact absurd this (by decide)
  have F:hb≠w.heap.size+1+1:=λe=>by have:=ar g (e ▸ q.out);exact absurd this (by decide)
  have CM:Hid (Calls Pg 72 #[.pointer (T (Q hb 0 Y))] f.drew λe w'=>∃a c R,e=ZF (ZH #[Z a R.length c])/\DRow w' f.heap.size (Z a R.length c) R/\R.map (·.1)=iu S y/\Below f.heap.size f w'):=by have hd:Below f.heap.size f f.drew:=br.drew;have ZT:=Av ZJ.heap.size f.drew hb md or L y (GS.aa hd ly) Fk KV Fm (V0.aa (B3.trans (hd.mono H)) ly) (V1.aa (B3.trans (hd.mono H)) ly) DE Lb;exact ZT.mono λe w' ⟨a,c,R,h1,h2,h3,h4⟩=>⟨a,c,R,h1,h2,h3,h4.os,h4.tape,h4.output,h4.size,h4.block⟩
  clear m ph hrel g th ur DS b0 b1 b2 b3 hl D;go_wp2_with fail;refine wp_region_held_drew (S:=λV=>h V (Q hb 5 Y)=T (N I r.E)/\h V (Q hb 6 Y)=T (U r.B)/\h V (Q hb 7 Y)=T (Z Y 0 0)) (by kernel_rfl) (SQ _ rfl) ?_;intro hS;have ZN:=ae hS;clear hS b5 b6 b7 b8;refine bI 0 (v:=?_) rfl rfl (by kernel_rfl) (λ_ _ _ ZT=>ZT) rfl ?_ ZN ?_;rotate_left
  ·(rintro wz ⟨s0,s1,s2⟩;go_simp)
   (try with_reducible rfl)
  (try simp only[Act.put,nzL])
  iterate 4
   refine bI 2 (v:=?_) rfl rfl (by kernel_rfl) (λ_ _ _ ZT=>ZT) rfl ?_ ZN ?_;rotate_left
   ·(rintro wz ⟨s0,s1,s2⟩;go_simp)
    (try with_reducible rfl)
   (try simp only[Act.put,nzL])
  refine aS (i:=1) rfl (by kernel_rfl) λK C=>?_;go_simp;go_at_call 72;refine CM.mono ?_;rintro e w4 ⟨ZL,c5,R,rfl,qr,sm,At⟩;have D4:=ae qr;have M4:=ae sm;have B4:=ae At;clear qr sm At ZN;have ZN:=ae (SQ w4 (B4.block _ ZO));refine C _ _ ZN ?_;clear C K
  (try simp only[Act.put,nzL])
  refine aS (i:=6) rfl (by kernel_rfl) λK C=>?_;go_simp;go_at_call 71;have CC:=qJ w4 r Y 0 w4.heap.size (by rw[dg.out];exact⟨rfl,.inl ⟨rfl,rfl⟩⟩) (by rw[dg.out];exact E4 _);rw[dg.out] at CC;refine CC.mono ?_;clear CC;rintro e O ⟨rv,rfl,⟨ZS,z,rfl,ZQ⟩,ZP⟩;have B:=ae ZQ;have E:=ae ZP;have X:f.heap.size<=w4.heap.size:=B4.size;have u:=(E.block _ (lj (ai t) X)).trans ((B4.block _ (ai t)).trans t);have ZR:=(E.block _ (lj (ai q) X)).trans ((B4.block _ (ai q)).trans q);obtain⟨rl,r0,r1,r2,G⟩:=bv ZR;have Hx:=G 0;have Id:=G 1;have KZ:=G 2;have p0:h O (Q (w.heap.size+1) 0 Y)=T (Z Y 0 0):=by simp[World.cell?,u]
  have Lc:O.frozen? (Q (w.heap.size+1) 0 Y)=ZA:=by simp[World.frozen?,u]
  have pl:=ai u;have Fn:w.heap.size+1<f.heap.size:=ai t.out;have La:w.heap.size+1+1<f.heap.size:=ai q.out;have mv:=(E.block hb (lj ZO X)).trans (B4.block hb ZO);clear G u ZR ZN ZQ ZP;have ZN:=ae (SQ O mv);refine C _ _ ZN ?_;clear C K
  (try simp only[Act.put,nzL])
  refine aS (i:=7) rfl (by kernel_rfl) λK C=>?_;go_simp;have Ld:=ae (SQ (O.setCell (Q (w.heap.size+1) 0 Y) (Z ZL R.length c5)) ((qh _ _ _ _ W).trans mv));refine C _ _ Ld ?_;clear C K
  (try simp only[Act.put])
  have Le:=ae (SQ ((((O.setCell (Q (w.heap.size+1) 0 Y) (Z ZL R.length c5)).setCell (Q (w.heap.size+1+1) 0 Y) (N I r.E)).setCell (Q (w.heap.size+1+1) 1 Y) (U r.B)).setCell (Q (w.heap.size+1+1) 2 Y) (Z ZS r.j.length z)) ((qh _ _ _ _ F).trans ((qh _ _ _ _ F).trans ((qh _ _ _ _ F).trans ((qh _ _ _ _ W).trans mv)))));refine aS (i:=8) rfl (by kernel_rfl) λK C=>?_;go_simp;refine C _ _ Le ?_;clear C K
  (try simp only[Act.put])
  refine wpAnyH_done (by kernel_rfl) ?_ _;have OF:=ae (aA (aA (aA (aA B (b:=w.heap.size+1) (λe=>by have:=(aj B _ e).1;omega) 0 (Z ZL R.length c5)) (b:=w.heap.size+1+1) (λe=>by have:=(aj B _ e).1;omega) 0 (N I r.E)) (b:=w.heap.size+1+1) (λe=>by have:=(aj B _ e).1;omega) 1 (U r.B)) (b:=w.heap.size+1+1) (λe=>by have:=(aj B _ e).1;omega) 2 (Z ZS r.j.length z));have DF:=ae (((((D4.aa E ly).set (p:=(Q (w.heap.size+1) 0 Y)) (e:=37) (.inl (by show w.heap.size+1<f.heap.size;omega)) (Z ZL R.length c5)).set (p:=(Q (w.heap.size+1+1) 0 Y)) (e:=37) (.inl (by show w.heap.size+1+1<f.heap.size;omega)) (N I r.E)).set (p:=(Q (w.heap.size+1+1) 1 Y)) (e:=37) (.inl (by show w.heap.size+1+1<f.heap.size;omega)) (U r.B)).set (p:=(Q (w.heap.size+1+1) 2 Y)) (e:=37) (.inl (by show w.heap.size+1+1<f.heap.size;omega)) (Z ZS r.j.length z));have BF:=ae (((((B3.trans ((B4.trans (E.mono X)).mono H)).setCell (p:=(Q (w.heap.size+1) 0 Y)) (by show w.heap.size<=w.heap.size+1;omega) (Z ZL R.length c5)).setCell (p:=(Q (w.heap.size+1+1) 0 Y)) (by show w.heap.size<=w.heap.size+1+1;omega) (N I r.E)).setCell (p:=(Q (w.heap.size+1+1) 1 Y)) (by show w.heap.size<=w.heap.size+1+1;omega) (U r.B)).setCell (p:=(Q (w.heap.size+1+1) 2 Y)) (by show w.heap.size<=w.heap.size+1+1;omega) (Z ZS r.j.length z));go_wp2;refine bp (v:=.tuple #[ZH #[Z ZL R.length c5],ZH #[N I r.E,U r.B,Z ZS r.j.length z]]) (by simp[results,results21,go_sem,p0,r0,r1,r2]) rfl ⟨ZL,c5,R,_,rfl,DF.mono H,M4,⟨ZS,z,rfl,aB OF (by omega)⟩,BF⟩
 case' inr.inl =>
  rw[hl] at l;obtain⟨r,m⟩:∃r,r=jB c:=⟨_,rfl⟩
  have e:bb=([],r):=by rw[aq.out,hl,m];rfl
  subst e;obtain⟨a,k,u0,u1,md,or,st,g,ho⟩:=l;have o:r.j.length<=1000:=by rw[m];exact p7 (D c hl) (by simp)
  have l:c.length=r.j.length:=by rw[m];rfl
  rw[<-m,l] at g ho;clear m l
 case' inr.inr =>
  rw[hl] at l;obtain⟨r,m⟩:∃r,r=jC d:=⟨_,rfl⟩
  have e:bb=([],r):=by rw[aq.out,hl,m];rfl
  subst e;obtain⟨u0,u1,md,or,st,g,ho⟩:=l;have o:r.j.length<=1000:=by rw[m];exact E4 _
  have l:0=r.j.length:=by rw[m];rfl
  rw[<-m,l] at g ho;clear m l
 all_goals
  obtain⟨ZO,-,-,-,-,-,b5,b6,b7,b8,-⟩:=g.K;have JT:=ae (qJ f r _ _ _ ho o);have W:hb≠w.heap.size+1:=λe=>by have:=ar g (e ▸ t.out);exact absurd this (by decide)
  have F:hb≠w.heap.size+1+1:=λe=>by have:=ar g (e ▸ q.out);exact absurd this (by decide)
  clear hl D g ho o;go_wp2_with fail;refine JT.mono ?_;rintro e O ⟨rv,rfl,⟨ZS,z,rfl,ZQ⟩,ZP⟩;have B:=ae ZQ;have E:=ae ZP;have u:=(E.block _ (ai t)).trans t;have ZR:=(E.block _ (ai q)).trans q;obtain⟨rl,r0,r1,r2,G⟩:=bv ZR;have Hx:=G 0;have Id:=G 1;have KZ:=G 2;have p0:h O (Q (w.heap.size+1) 0 Y)=T (Z Y 0 0):=by simp[World.cell?,u]
  have Lc:O.frozen? (Q (w.heap.size+1) 0 Y)=ZA:=by simp[World.frozen?,u]
  have pl:=ai u;have Fn:w.heap.size+1<f.heap.size:=ai t.out;have La:w.heap.size+1+1<f.heap.size:=ai q.out;have OF:=ae (aA (aA (aA (aA B (b:=w.heap.size+1) (λe=>by have:=(aj B _ e).1;omega) 0 (Z Y 0 0)) (b:=w.heap.size+1+1) (λe=>by have:=(aj B _ e).1;omega) 0 (N I r.E)) (b:=w.heap.size+1+1) (λe=>by have:=(aj B _ e).1;omega) 1 (U r.B)) (b:=w.heap.size+1+1) (λe=>by have:=(aj B _ e).1;omega) 2 (Z ZS r.j.length z));have BF:=ae (((((B3.trans (E.mono H)).setCell (p:=(Q (w.heap.size+1) 0 Y)) (by show w.heap.size<=w.heap.size+1;omega) (Z Y 0 0)).setCell (p:=(Q (w.heap.size+1+1) 0 Y)) (by show w.heap.size<=w.heap.size+1+1;omega) (N I r.E)).setCell (p:=(Q (w.heap.size+1+1) 1 Y)) (by show w.heap.size<=w.heap.size+1+1;omega) (U r.B)).setCell (p:=(Q (w.heap.size+1+1) 2 Y)) (by show w.heap.size<=w.heap.size+1+1;omega) (Z ZS r.j.length z));clear G u ZR ZQ ZP b5 b6 b7 b8;go_wp2_with fail;refine bp (v:=.tuple #[ZH #[Z Y 0 0],ZH #[N I r.E,U r.B,Z ZS r.j.length z]]) (by simp[results,results21,go_sem,p0,r0,r1,r2]) rfl ⟨Y,0,[],_,rfl,cA _ _,rfl,⟨ZS,z,rfl,?_⟩,?_⟩
  ·first|exact aB OF (by omega)|(have ZT:=aB OF (show w.heap.size<=f.heap.size by omega);simpa[p0] using ZT)
  ·first|exact BF|simpa[p0] using BF.out
theorem vV (w:M)(nm:ByteArray)(f:SlSource w a0 S.n0 S.f0)(c:SlTarget w a1 S.n1 S.f1)(hn0:S.n0<=1048576)(hn1:S.n1<=1048576)(b:∀i,i<S.n1->cT (S.f1 i))(g:∀i,i<S.n1->∀j,j<(S.f1 i).f->((S.f1 i).H j).s.size<=maxLen):Calls Pg 21 #[ZH #[Z a0 S.n0 c0,Z a1 S.n1 c1],U nm] w λe l=>vT w S (ci S nm) e l:=by
 by_cases ZT:ce S.n0 S.f0 S.n1 S.f1=0/\aw nm=ZG;{exact xD w nm f c hn0 hn1 b g ZT.1 ZT.2}
 ·have e:ci S nm=([],⟨9,⟨#[]⟩,[]⟩):=by unfold ci;rw[gM ZT]
  rw[e];exact vU w nm f c hn0 hn1 b g ZT
end
