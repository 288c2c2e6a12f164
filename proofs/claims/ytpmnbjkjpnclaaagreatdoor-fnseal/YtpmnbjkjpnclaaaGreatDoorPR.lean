import Derived.Test.YtpmnbjkjpnclaaaGreatDoorPH
import Derived.Defers
import Derived.Recover
set_option maxRecDepth 100000
set_option maxHeartbeats 8000000
open Go renaming Addr.mk->Q,Value.slice->Z,Value.string->Y,Value.int->J,Value.bool->ZD,Obj.cells->N,IntKind.i64->I,World->M,Value->ZC,TypeId->ZH,Ending.returned->ZF,World.alloc->A,World.cell?->h,Proofs.Tryz.prog->Pg
open Option renaming none->U,some->T
open Bool renaming false->ZA,true->ZG
namespace Go.Proofs.YtpmnbjkjpnclaaaGreatDoor.Vp
open Tryz RowKit Go.Maps Ca
variable {w:M}{S:Spc}{l:Lk}{c t b size n f:Nat}{x:Ent}{i p o:ZC}{e:ZH}{L:List SM}
def t6 (w b:M)(r:kY)(v:ZC):Prop:=∃a c,v=.agg #[J I r.E,Y r.B,Z a r.j.length c]/\b.ownsRow w.heap.size 9 1 (Z a r.j.length c) r.j.length (b9 r.j)
theorem Do (w b:M)(c:Int)(t:ByteArray):t6 w b ⟨c,t,[]⟩ (.agg #[J I c,Y t,Z U 0 0]):=⟨U,0,rfl,⟨rfl,.inl ⟨rfl,rfl⟩⟩⟩
section
variable {S:Spc}{a0 a1:Option Addr}{c0 c1:Nat}
theorem FY (S:Spc):ei S [] []<=S.n1:=by have:=TU (p:=jz S [] []) (l:=List.range S.n1);rw[List.length_range] at this;exact this
end
def Iz (f:M)(hb:Nat)(j i:ZC)(b:M):Out Ent->Prop
 |.inl (made',x)=>∃L g ZS st,ShBox b hb j i g ZS st (dQ x).E (dQ x).B (Z U 0 0) ZA/\b.ownsRow f.heap.size 198 6 g L.length (L.flatMap smV)/\b.ownsRow f.heap.size 9 1 ZS made'.length (b9 (made'.map (·.e)))/\(∀m∈L,m.done=ZG->b.ownsRow f.heap.size 201 3 m.sv m.c.length (eF m.c))/\fG L [] made'
 |.inr (.inl c)=>∃a k,jh f hb b (jA c) (Z a c.length k)
 |.inr (.inr d)=>jh f hb b (jB d) (Z U 0 0)
section
variable {S:Spc}{a0 a1:Option Addr}{c0 c1:Nat}
theorem xy (w:M)(C:pt w S a0 a1)(nm:ByteArray)(hn:aw nm=ZG):Calls Pg 70 #[.agg #[Z a0 S.n0 c0,Z a1 S.n1 c1],Y nm] w λe K=>∃hb,e=ZF (.pointer (T (Q hb 0 U)))/\Iz w hb (Z a0 S.n0 c0) (Z a1 S.n1 c1) K (bH S 60 [] [] nm)/\Below w.heap.size w K:=by
 obtain⟨R,hR⟩:∃R,R=bH S 60 [] [] nm:=⟨_,rfl⟩
 have ZK:Hid (∀(W:M) (hb:Nat),SI w hb (Z a0 S.n0 c0) (Z a1 S.n1 c1) W [] [] [] (Z U 0 0) (Z U 0 0) (Z U 0 0)->Calls Pg 130 #[.pointer (T (Q hb 0 U)),Y nm] W λe K=>mC w hb (Z a0 S.n0 c0) (Z a1 S.n1 c1) [] [] W e K R):=by intro W hb ZO;rw[hR];refine FU C 60 [] [] [] _ _ _ W nm rfl ZO ⟨List.Pairwise.nil,rfl,λx t=>absurd t nj,λx t=>absurd t nj,λx t=>absurd t nj⟩ (nA S []) ?_ (λx t=>absurd t nj) hn;have h1:=FY S;have h2:=C.ok.av;unfold fi;simp only[nX];omega
 rw[<-hR];have zA:(A w (N #[Z a0 S.n0 c0,Z a1 S.n1 c1] 27)).heap.size=w.heap.size+1:=by simp
 obtain⟨W0,ZR⟩:∃W:M,(A w (N #[Z a0 S.n0 c0,Z a1 S.n1 c1] 27)).alloc (N #[Z a0 S.n0 c0,Z a1 S.n1 c1,Z U 0 0,Z U 0 0,Z U 0 0,J I 0,Y ⟨#[]⟩,Z U 0 0,ZD ZA] 117)=W:=⟨_,rfl⟩
 obtain⟨O,-,-,-⟩:=nb2 ZR;have y:=ae ZR;clear ZR;have S0:Hid (SI w (w.heap.size+1) (Z a0 S.n0 c0) (Z a1 S.n1 c1) W0 [] [] [] (Z U 0 0) (Z U 0 0) (Z U 0 0)):=by
  cases y.out
  refine⟨O,F6 _,?_,⟨rfl,.inl ⟨rfl,rfl⟩⟩,⟨rfl,.inl ⟨rfl,rfl⟩⟩,⟨rfl,.inl ⟨rfl,rfl⟩⟩,(λk ZS=>by cases ZS),λm ZJ=>absurd ZJ nj⟩;have h2:=nL (A w (N #[Z a0 S.n0 c0,Z a1 S.n1 c1] 27)) (N #[Z a0 S.n0 c0,Z a1 S.n1 c1,Z U 0 0,Z U 0 0,Z U 0 0,J I 0,Y ⟨#[]⟩,Z U 0 0,ZD ZA] 117);rw[zA] at h2;exact h2
 clear hn C hR zA;go_enter func70,ntmps70;go_wp2_with fail;rw[y.out];clear y;obtain⟨hb,ZM⟩:∃hb,hb=w.heap.size+1:=⟨_,rfl⟩
 rw[<-ZM] at S0 ⊢;have E:w.heap.size<=hb:=by omega
 clear ZM;refine(ZK W0 hb S0).mono ?_;clear ZK;rintro e r l;rcases R with ⟨made',x⟩|c|d
 ·obtain⟨L,md,or,st,rfl,ZO,hrel,-,f⟩:=l;have s:=ae (O.trans f.aa);have dg:=ae hrel;obtain⟨B,ZP⟩:∃B,B=(dQ x).E:=⟨_,rfl⟩
  obtain⟨rt,H⟩:∃rt,rt=(dQ x).B:=⟨_,rfl⟩
  have fd:=ae ZP;have V:=ae H;rw[<-ZP,<-H];have i:=ae ((q9 r).alloc ly (N #[J I B,Y rt,Z U 0 0] 39));have D:=ae (ZO.aa i ly);clear f hrel ZO ZP H;obtain⟨P,-,-,-,-,-,b5,b6,b7,b8,ZQ⟩:=D.G.K;have bf5:=ZQ 5;have bf6:=ZQ 6;have bf7:=ZQ 7;clear ZQ;go_wp2_with fail;go_ret;have z:∀{size n:Nat} {ZN:ZH} {u:ZC} {ZL:List ZC},(r.alloc (N #[J I B,Y rt,Z U 0 0] 39)).ownsRow w.heap.size ZN size u n ZL->117≠ZN->((((r.alloc (N #[J I B,Y rt,Z U 0 0] 39)).setCell (Q hb 5 U) (J I B)).setCell (Q hb 6 U) (Y rt)).setCell (Q hb 7 U) (Z U 0 0)).ownsRow w.heap.size ZN size u n ZL:=λhr ht=>by
   rename_i size n ZN u ZL;have F:u.ownBlock≠T hb:=λe=>by obtain⟨_,_,cs2,aq⟩:=aj hr hb e;exact absurd (ar D.G aq) ht
   exact aA (aA (aA hr F _ _) F _ _) F _ _
  refine⟨hb,rfl,⟨L,md,or,st,?_,z D.W (by decide),z D.ror (by decide),λm ZJ hd=>z (D.c m ZJ hd) (by decide),dg⟩,?_⟩;{rw[<-fd.out,<-V.out];exact ay (ay (ay D.G (j:=5) _) (j:=6) _) (j:=7) _};{exact(((s.trans (i.mono s.size)).setCell (p:=(Q hb 5 U)) E _).setCell (p:=(Q hb 6 U)) E _).setCell (p:=(Q hb 7 U)) E _}
 {obtain⟨a,k,rfl,⟨s0,s1,bt,X,ZI,g,b⟩,f⟩:=l;have q:=ae g;have G:=ae b;have s:=ae (O.trans f.aa);clear g b f;unfold jr jA;dsimp only;have i:=ae ((q9 r).alloc ly (N #[J I 6,Y ⟨#[]⟩,Z a c.length k] 39));have o:=ae (ShBox.ab q (i.block _ (ai q)));obtain⟨P,-,-,-,-,-,-,-,-,b8,-⟩:=o.K;go_wp2_with fail;go_ret;exact⟨hb,rfl,⟨a,k,_,_,_,_,_,o,own_below G i ly⟩,s.trans (i.mono s.size)⟩};{obtain⟨rfl,⟨s0,s1,bt,X,ZI,g,b⟩,f⟩:=l;have q:=ae g;have G:=ae b;have s:=ae (O.trans f.aa);clear g b f;unfold jr jB;dsimp only;have i:=ae ((q9 r).alloc ly (N #[J I 7,Y d,Z U 0 0] 39));have o:=ae (ShBox.ab q (i.block _ (ai q)));obtain⟨P,-,-,-,-,-,-,-,-,b8,-⟩:=o.K;go_wp2_with fail;go_ret;exact⟨hb,rfl,⟨_,_,_,_,_,o,own_below G i ly⟩,s.trans (i.mono s.size)⟩}
end
theorem FZ (w:M)(z:Int)(rt:ByteArray)(D:List ByteArray)(a:Option Addr)(n c B:Nat)(hn:n=D.length)(hlen:n<=1000)(ho:w.ownsRow B 9 1 (Z a n c) n (b9 D)):Calls Pg 71 #[.agg #[J I z,Y rt,Z a n c]] w λe w'=>∃rv,e=ZF rv/\t6 w w' ⟨z,rt,D⟩ rv/\Below w.heap.size w w':=by
 obtain⟨i1,ZK,S,dg,aq⟩:=lE pu;have HO:=ae ho;have E:=ae hn;clear ho hn;obtain⟨b,y⟩:∃W:M,(A w (N #[J I z,Y rt,Z a n c] 39)).alloc (N #[J I 0,Y ⟨#[]⟩,Z U 0 0] 39)=W:=⟨_,rfl⟩
 obtain⟨L,kP,kR,-⟩:=nb2 y;have F:=ae y;clear y;go_enter func71,ntmps71;go_upto_region 1 with fail;rw[F.out];clear F;obtain⟨-,p0,p1,ZJ,-⟩:=bv kP;have bt:w.heap.size+1<b.heap.size:=ai kR.out;have G:Hid (∀V:M,(∀k,k<b.heap.size->V.heap[k]?=b.heap[k]?)->h V (Q w.heap.size 0 U)=T (J I z)/\h V (Q w.heap.size 1 U)=T (Y rt)/\h V (Q w.heap.size 2 U)=T (Z a n c)):=λV ZO=>by have e:=cq (a:=(Q w.heap.size 0 U)) (ZO w.heap.size (by omega));have e1:=cq (a:=(Q w.heap.size 1 U)) (ZO w.heap.size (by omega));have e2:=cq (a:=(Q w.heap.size 2 U)) (ZO w.heap.size (by omega));exact⟨e.trans p0,e1.trans p1,e2.trans ZJ⟩
 have C:=ae (G b.drew (λk s=>rfl));refine aD (λV=>h V (Q w.heap.size 0 U)=T (J I z)/\h V (Q w.heap.size 1 U)=T (Y rt)/\h V (Q w.heap.size 2 U)=T (Z a n c)) 9 (by kernel_rfl) ?_;clear p0 p1 ZJ;iterate 4
  refine aI 0 (v:=?_) rfl rfl (by kernel_rfl) (λ_ _ _ ZS=>ZS) rfl ?_ C ?_;rotate_left
  ·(rintro wz ⟨X,s1,ZM⟩;go_simp)
   (try with_reducible rfl)
  (try simp only[Act.put,nzL])
 iterate 2
  refine aI 5 (v:=?_) rfl rfl (by kernel_rfl) (λ_ _ _ ZS=>ZS) rfl ?_ C ?_;rotate_left
  ·(rintro wz ⟨X,s1,ZM⟩;go_simp)
   (try with_reducible rfl)
  (try simp only[Act.put,nzL])
 refine ah (i:=4) rfl (by kernel_rfl) λK m=>?_;go_simp;have P:=ae (((q9 b).drew).alloc ly (N #[] 9));refine m _ _ (λ_=>G _ (λk s=>P.block k s)) ?_;clear m K
 (try simp only[Act.put,nzL])
 have f:Hid (Below b.heap.size b (A b (N #[] 9)).drew):=((q9 b).alloc ly _).drew;have o:Hid ((A b (N #[] 9)).drew.ownsRow b.heap.size 9 1 (Z (T (Q b.heap.size 0 U)) 0 0) 0 []):=own_below (nV b 9 1) br.drew ly;have ZN:Hid ((A b (N #[] 9)).drew.ownsRow B 9 1 (Z a n c) n (b9 D)):=own_below (own_below HO L ly) f ly;refine ah (i:=7) rfl (by kernel_rfl) λK m=>?_;obtain⟨-,⟨O,h0⟩|⟨g,cap,cur,O,-⟩⟩:=id ZN.out;focus
  have e0:D=[]:=PL.1 (E.out.symm.trans h0);cases O
  subst e0;go_simp;have x:=f;obtain⟨a1,c1,R,ZP⟩:∃a1 c1,(Z a1 0 c1:ZC)=Z (T (Q b.heap.size 0 U)) 0 0/\Hid ((A b (N #[] 9)).drew.ownsRow b.heap.size 9 1 (Z a1 0 c1) 0 (b9 [])):=⟨_,_,rfl,o⟩
  rw[<-R];clear f o ZN P R;refine m _ _ (λ_=>G _ (λk s=>x.block k s)) ?_;generalize (A b (N #[] 9)).drew=ZQ at x ZP ⊢
 rotate_left;focus
  cases O
  refine aG (w:=(A b (N #[] 9)).drew) rfl (.tmp 7) (.tmp 9) 30 rfl b.heap.size 9 i1 (Y ⟨#[]⟩) 1 16 IB ZK S dg aq rfl (by decide) (Z (T (Q b.heap.size 0 U)) 0 0) 0 [] (by simp[Act.eval]) o.out (Q g 0 U) n c (b9 D) (by simp[Act.eval]) (by rw[b9,QX,<-E.out,Nat.mul_one]) (λq u ZS=>ZN.cells (g:=g) rfl q u ZS) (λu hu=>by rw[b9,QP] at hu;obtain⟨t,_,rfl⟩:=hu;rfl) (by unfold maxLen;omega) (by omega) f.size ?_;intro v1 ZQ l ZR ZL;have x:Hid (Below b.heap.size b ZQ):=f.trans (bg (dB b.heap.size _) ZR f.size (λj e=>(o.lt j e).1));rw[FM,LN] at l;have ZP:=ae l;obtain⟨a1,c1,rfl⟩:=j6 l;clear l ZR ZL f o ZN P;refine m _ _ (λ_=>G _ (λk s=>x.block k s)) ?_
 all_goals
  clear m K
  (try simp only[Act.put,nzL])
  have ZI:=ae (G ZQ (λk s=>x.block k s));clear C;have C:=ae ZI.out;refine aI 8 (v:=?_) rfl rfl (by kernel_rfl) (λ_ _ _ ZS=>ZS) rfl ?_ C ?_;rotate_left
  ·(rintro wz ⟨X,s1,ZM⟩;go_simp)
   (try with_reducible rfl)
  (try simp only[Act.put,nzL])
  obtain⟨rl,r0,r1,r2,H⟩:=bv ((x.block _ bt).trans kR);have rf0:=H 0;have rf1:=H 1;have rf2:=H 2;clear H;refine ah (i:=9) rfl (by kernel_rfl) λK m=>?_;go_simp;refine m _ _ (λZS=>absurd rfl ZS) ?_;clear m K C
  (try simp only[Act.put])
  refine aX (by kernel_rfl) ?_ _;go_wp2_with fail;first|refine bp (v:=.agg #[J I z,Y rt,Z a1 n c1]) (by simp[results,results71,go_sem,r0,r1,r2]) rfl ⟨_,rfl,⟨a1,c1,by rw[<-E.out],?_⟩,?_⟩|refine bp (v:=.agg #[J I z,Y rt,Z a1 0 c1]) (by simp[results,results71,go_sem,r0,r1,r2]) rfl ⟨_,rfl,⟨a1,c1,by rw[<-E.out],?_⟩,?_⟩
  ·show World.ownsRow _ _ _ _ _ (List.length _) _
   rw[<-E.out];refine aB (aA (aA (aA ZP (λe=>?_) _ _) (λe=>?_) _ _) (λe=>?_) _ _) L.size;all_goals
    have:=(aj ZP _ e).1;omega
  ·exact(((L.trans (x.mono L.size)).setCell (p:=(Q (w.heap.size+1) 0 U)) (F6 _) _).setCell (p:=(Q (w.heap.size+1) 1 U)) (F6 _) _).setCell (p:=(Q (w.heap.size+1) 2 U)) (F6 _) _
theorem qG (w:M)(r:kY)(a:Option Addr)(c B:Nat)(i:w.ownsRow B 9 1 (Z a r.j.length c) r.j.length (b9 r.j))(b:r.j.length<=1000):Calls Pg 71 #[.agg #[J I r.E,Y r.B,Z a r.j.length c]] w λe f=>∃ZS,e=ZF ZS/\t6 w f r ZS/\Below w.heap.size w f:=by obtain⟨j,rt,g⟩:=r;simp only at i b ⊢;exact FZ w j rt g a g.length c B rfl b i
theorem Ap{f:List Ent->ByteArray->Out Ent}{K:Nat}(m:∀b nm c,f b nm=.inr (.inl c)->c.length<=K):∀k b g i c,dW S f t k b g i=.inr (.inl c)->c.length<=K:=by
 intro k;induction k with
 |zero=>intro b g i c ZS;cases ZS
 |succ k j =>
  intro b g i c ZS;rw[dW] at ZS;split at ZS;{cases ZS}
  ·split at ZS;{exact j _ _ _ _ ZS}
   ·split at ZS;{exact j _ _ _ _ ZS}
    ·rename_i c' l;cases ZS
     exact m _ _ _ l
    {cases ZS}
theorem xz (S:Spc):∀n b f nm c,bH S n b f nm=.inr (.inl c)->c.length<=b.length+n:=by
 intro n;have g:∀b f nm c (K:Nat) (tgt:Nat->Out Ent),b.length<=K->(∀t c,tgt t=.inr (.inl c)->c.length<=K)->fV S tgt b f nm=.inr (.inl c)->c.length<=K:=by
  intro b f nm c K tgt hK j ZS;unfold fV at ZS;split at ZS;{cases ZS}
  ·split at ZS
   ·cases ZS
    rw[LD];omega
   {unfold jY jq at ZS;split at ZS;{cases ZS};{split at ZS;{exact j _ _ ZS};{cases ZS}}}
 induction n with
 |zero =>intro b f nm c ZS;rw[bH] at ZS;exact g _ _ _ _ _ _ (by omega) (λt c ZS=>by cases ZS) ZS
 |succ n i =>
  intro b f nm c ZS;rw[bH] at ZS;refine g _ _ _ _ _ _ (by omega) (λt c ZS=>?_) ZS;rcases hr:dW S (bH S n (b++[nm])) t 201 f [] [] with ⟨made1,x⟩|c1|d;{rw[hr] at ZS;cases ZS}
  ·rw[hr] at ZS;cases ZS
   refine Ap (λf nm2 c2 h2=>?_) _ _ _ _ _ hr;have:=i _ _ _ _ h2;rw[cM,DW] at this;omega
  {rw[hr] at ZS;cases ZS}
def lkV (b:List Ent)(c:List Lk):List ZC:=c.flatMap λl=>cQ (lkD b l)
theorem IC (b:List Ent)(c:List Lk):bq (lkF b c) c.length=lkV b c:=by
 unfold bq lkV;rw[show(List.range c.length).map (lkF b c)=c.map (lkD b) from ?_,VO];refine TW λi=>?_;rw[NZ,NZ];rcases PJ i c.length with ZS|ZS;{rw[List.getElem?_range ZS,gq ZS];simp only[UR];rw[Cn (gq ZS)]};{rw[OH ZS,OH (by simpa using ZS)];rfl}
theorem F0 (b:List Ent)(c:List Lk){k:Nat}(ZS:c[k]?=T l):lkV b (c.take (k+1))=lkV b (c.take k)++cQ (lkD b l):=by rw[TV,ZS];simp[lkV]
theorem ID (w:M)(c b f g:ZC)(t:ZH):∀j u,[c,b,f,g][j]?=T u->(A w (N #[c,b,f,g] t)).cell? (((Q w.heap.size 0 U):Addr).add j)=T u:=by
 intro j u ZS;rw[addr_add];match j,ZS with
 |0,ZS=>simp at ZS;subst ZS;simp
 |1,ZS=>simp at ZS;subst ZS;simp
 |2,ZS=>simp at ZS;subst ZS;simp
 |3,ZS=>simp at ZS;subst ZS;simp
 |k+4,ZS=>simp at ZS
theorem DBox.grown{f:M}{g l m v:ZC}{q:List ZC}(ZS:DBox w b i g l m p o)(r:w.ownsRow c e size v n q)(j:w.grownBy f v.ownBlock)(hb:b<c):DBox f b i g l m p o :=
 ZS.ab j.size (j.block b ZS.lt λe=>by have:=(r.lt b e.symm).1;omega)
theorem Dp{g:M}{v:ZC}{m:ZH}{l i:List ZC}(ZS:w.ownsRow b e size v n l)(r:w.ownsRow c m f p t i)(s:w.grownBy g p.ownBlock)(j:e≠m):g.ownsRow b e size v n l :=
 dv ZS λk o=>s.block k (ZS.lt k o).2 λq=>(bu ZS k o).ne (WJ j) (bu r k q.symm)
theorem JF (w:M)(c b f g l i:ZC)(t:ZH):∀j u,[c,b,f,g,l,i][j]?=T u->(A w (N #[c,b,f,g,l,i] t)).cell? (((Q w.heap.size 0 U):Addr).add j)=T u:=by
 intro j u ZS;rw[addr_add];match j,ZS with
 |0,ZS=>simp at ZS;subst ZS;simp
 |1,ZS=>simp at ZS;subst ZS;simp
 |2,ZS=>simp at ZS;subst ZS;simp
 |3,ZS=>simp at ZS;subst ZS;simp
 |4,ZS=>simp at ZS;subst ZS;simp
 |5,ZS=>simp at ZS;subst ZS;simp
 |k+6,ZS=>simp at ZS
structure ShAt (B:Nat)(w:M)(hb:Nat)(s0 s1 md or:ZC)(L:List SM)(made:List Ent):Prop where
 lt:hb<w.heap.size
 c0:h w (Q hb 0 U)=T s0
 c1:h w (Q hb 1 U)=T s1
 c2:h w (Q hb 2 U)=T md
 c3:h w (Q hb 3 U)=T or
 W:w.ownsRow B 198 6 md L.length (L.flatMap smV)
 ror:w.ownsRow B 9 1 or made.length (b9 (made.map (·.e)))
 c:∀m∈L,m.done=ZG->w.ownsRow B 201 3 m.sv m.c.length (eF m.c)
theorem ShAt.aa{B C:Nat}{j:M}{hb:Nat}{n l:ZC}{c:List Ent}(ZS:ShAt B w hb n i l o L c)(b:Below C w j)(g:w.heap.size<=C):ShAt B j hb n i l o L c:=by have f:hb<C:=lj ZS.lt g;exact⟨lj ZS.lt b.size,(b.cell (p:=(Q hb 0 U)) f).trans ZS.c0,(b.cell (p:=(Q hb 1 U)) f).trans ZS.c1,(b.cell (p:=(Q hb 2 U)) f).trans ZS.c2,(b.cell (p:=(Q hb 3 U)) f).trans ZS.c3,own_below ZS.W b g,own_below ZS.ror b g,λm q r=>own_below (ZS.c m q r) b g⟩
theorem JG{b:List Ent}(ZS:fG L [] b){i:Nat}(j:b[i]?=T x):∃k m,fI L x.e=T k/\L[k]?=T m/\m.e=x.e/\m.done=ZG/\m.E=(dQ x).E/\m.B=(dQ x).B/\m.c=x.looks:=by obtain⟨m,q,c,p,l,o,f⟩:=ZS.got x (LB j);obtain⟨k,n,g⟩:=rL ZS.nod q c;exact⟨k,m,n,g,c,p,l,o,f⟩
theorem vP{c:List Ent}(h1:fx S x=0)(h2:x.looks=[])(W:M)(b:Nat):DSub W b (iW S c x,Z U 0 0,Z U 0 0):=by
 refine⟨?_,?_⟩;{show W.ownsRow b 151 3 (Z U 0 0) (fx S x) (bJ (S.f1 x.tg).H (fx S x));rw[h1];exact A9 _ _ _ _};{show W.ownsRow b 91 4 (Z U 0 0) x.looks.length (bq (lkF c x.looks) x.looks.length);rw[h2];exact A9 _ _ _ _}
theorem F7{b:List Ent}(ZS:PG S [] b){i:Nat}(p:b[i]?=T x)(q:l∈x.looks)(s:l.ask=ZG){D:List Deed}(r:D=(b.take i).map (iW S b)):jO (dF D) l.e i=((pp b l.e:Nat):Int):=by
 obtain⟨y,g,hn,o⟩:=ZS.asked p q s;have f:∀(j:Nat) (z:Ent),j<i->b[j]?=T z->(dF D j).e=z.e:=λj z m hz=>by unfold dF;rw[r,IA,NZ,List.getElem?_take_of_lt m,hz];rfl
 unfold jO;refine fP o ?_ λj m=>?_;{rw[f _ y o g,hn];simp}
 ·have n:=(n8.1 g).1;have hz:b[j]?=T b[j]:=gq (by omega);rw[f j _ (by omega) hz];have c:=PO.1 ZS.nod j _ (by omega) n m;rw[(n8.1 g).2,hn] at c;cases hb:(b[j].e.toList == l.e.toList) with
  |false=>rfl
  |true=>exact absurd (bytes_beq hb) c
theorem Dq{g:Nat}{b:List Lk}(ZS:w.ownsRow f 201 3 (Z (T (Q g 0 U)) b.length c) b.length (eF b)){k:Nat}(i:b[k]?=T l)(j:Nat)(n:j<3){u:ZC}(m:[Value.string l.e,ZD l.ask,ZD l.has][j]?=T u):h w (Q g (k*3+j) U)=T u :=
 (cP ZS (j:=k*3+j) (u:=u) (by rw[eF,dt (λl:Lk=>[Value.string l.e,ZD l.ask,ZD l.has]) 3 (λ_=>rfl) b k j n l i];exact m)).1
def LkI (S:Spc)(g:List Ent)(x:Ent)(j:Int)(rt:ByteArray)(l:Option Addr)(m n ZS f c4:Nat)(b:M)(al:Option Addr)(k i:Nat)(c:M):Prop:=Hid (DBox c (b.heap.size+1) (Y x.e) (J I 3) (J I j) (Y rt) (Z (T (Q ZS 0 U)) f c4) (Z al k i))/\Hid (c.heap[b.heap.size]?=T (N #[Y x.e,J I j,Y rt,Z U 0 0,Z l m n,ZD ZG] 198 (0,0)))/\Hid (c.ownsRow (b.heap.size+2) 151 3 (Z (T (Q ZS 0 U)) f c4) f (bJ (S.f1 x.tg).H f))/\Hid (c.ownsRow (b.heap.size+2) 91 4 (Z al k i) k (lkV g (x.looks.take k)))/\Hid (Below b.heap.size b c)
section
variable {S:Spc}{a0 a1:Option Addr}{c0 c1:Nat}
theorem Aq (B:Nat)(w:M)(hb:Nat)(md or:ZC)(L:List SM)(f:List Ent)
  (KH:ShAt B w hb (Z a0 S.n0 c0) (Z a1 S.n1 c1) md or L f) (hrel:fG L [] f) (LF:PG S [] f) (Me:f.length<=40201)
  (LG:SlSource w a0 S.n0 S.f0) (Ly:SlTarget w a1 S.n1 S.f1) (Lw:SpcOk S) (Lm:∀i,i<S.n1->cT (S.f1 i)) :
  Calls Pg 72 #[.pointer (T (Q hb 0 U))] w λe w'=>∃a c R,e=ZF (.agg #[Z a R.length c])/\DRow w' w.heap.size (Z a R.length c) R/\R.map (·.1)=ik S f/\Below w.heap.size w w':=by
 have LJ:=ae KH;have Mo:=ae hrel;have L9:=ae LF;have V0:=ae LG;have V1:=ae Ly;have Kt:=ae Lw;have Mv:=ae Lm;have My:L.length<=40201:=by have:=hrel.len;simp only[nX,PT] at this;omega
 obtain⟨am,cm,rfl⟩:=iq KH.W;obtain⟨ao,co,rfl⟩:=iq KH.ror;obtain⟨ZO,hN⟩:∃ZO,ZO=L.length:=⟨_,rfl⟩
 obtain⟨n,hn⟩:∃n,n=f.length:=⟨_,rfl⟩
 have ZJ:=ae hN;have HN:=ae hn;rw[<-hN,<-hn] at LJ;rw[<-hN] at My;rw[<-hn] at Me;clear KH hrel LF LG Ly Lw Lm hN hn;obtain⟨il,ML,Mh,Mm,Ml⟩:=L8 iy;obtain⟨MO,MD,Mf,Mn,Mj⟩:=L8 fk;have A0:=ae (((q9 w).alloc ly (N #[Z U 0 0] 37)).alloc (by simp) (N #[Z U 0 0] 37));have kR:Hid (((A w (N #[Z U 0 0] 37)).alloc (N #[Z U 0 0] 37)).heap[w.heap.size]?=T (N #[Z U 0 0] 37 (0,0))) :=
  ((((dB (w.heap.size+1) _).alloc (by simp) _).block w.heap.size (by omega)).trans (nL w _))
 have kA:Hid (((A w (N #[Z U 0 0] 37)).alloc (N #[Z U 0 0] 37)).heap[w.heap.size+1]?=T (N #[Z U 0 0] 37 (0,0))):=by have h2:=nL (A w (N #[Z U 0 0] 37)) (N #[Z U 0 0] 37);rw[show(A w (N #[Z U 0 0] 37)).heap.size=w.heap.size+1 by simp] at h2;exact h2
 go_enter func72,ntmps72;go_wp2_with fail;generalize World.alloc (World.alloc w _) _=W0 at A0 kR kA ⊢;go_loopw [4] (λv wr=>∃(i:Nat) (P:Option Addr) (c5:Nat) (R:List DR),i<=n/\v=J I i/\R.length=i/\Hid (R.map (·.1)=(f.take i).map (iW S f))/\Hid (DRow wr (w.heap.size+2) (Z P i c5) R)/\Hid (wr.heap[w.heap.size+1]?=T (N #[Z P i c5] 37 (0,0)))/\Hid (wr.heap[w.heap.size]?=T (N #[Z U 0 0] 37 (0,0)))/\Hid (Below w.heap.size w wr)) (λv _=>n - (intOf v).toNat);case atStart=>exact⟨0,U,0,[],by omega,rfl,rfl,rfl,cA _ _,kA,kR,A0⟩
 case round =>
  clear kA kR A0;obtain⟨i,P,c5,R,hi,rfl,Fk,Lg,D4,k4,dg,B4⟩:=hrel;have K:=ae (LJ.aa B4 ly);have hw4:w.heap.size+2<=wr.heap.size:=ai k4.out;have h3:=K.c3;have Lu:=K.lt;by_cases MK:i<n
  ·obtain⟨x,hx⟩:∃x,f[i]?=T x:=⟨_,gq (by rw[<-HN.out];exact MK)⟩
   obtain⟨j,m,hf,hm,e1,e2,e3,e4,e5⟩:=JG Mo hx;have DS:=K.ror;have ZN:=K.W;rw[<-HN.out] at DS;rw[<-ZJ.out] at ZN;obtain⟨go,co',e⟩:=cC DS (by omega);simp only[N1,TF] at e;obtain⟨rfl,rfl⟩:=e;have hjN:j<ZO:=by rw[ZJ.out];exact(n8.1 hm).1
   obtain⟨t,cm',e⟩:=cC ZN (by omega);simp only[N1,TF] at e;obtain⟨rfl,rfl⟩:=e;have oc:h wr (Q go i U)=T (Y x.e):=(cP DS (by rw[b9,NZ,NZ,hx];rfl)).1;have Mq:=(dM DS).2;have mv:=(dM ZN).2;have h2:=K.c2;have At:=K.c m (LB hm) e2;obtain⟨X,D,Kw⟩:=iq At;obtain⟨y,La⟩:∃y,y=(dQ x).E:=⟨_,rfl⟩
   obtain⟨rt,fd⟩:∃rt,rt=(dQ x).B:=⟨_,rfl⟩
   obtain⟨o,Ky⟩:∃o,o=x.looks.length:=⟨_,rfl⟩
   rw[e5] at Kw At;rw[Kw,<-Ky] at At;have q0:h wr (Q t (j*6) U)=T (Y x.e):=by have:=cE (by rw[<-ZJ.out];exact ZN) hm 0 (by omega) rfl;rw[e1] at this;exact this
   have q1:h wr (Q t (j*6+1) U)=T (J I y):=by have:=cE (by rw[<-ZJ.out];exact ZN) hm 1 (by omega) rfl;rw[e3,<-La] at this;exact this
   have q2:h wr (Q t (j*6+2) U)=T (Y rt):=by have:=cE (by rw[<-ZJ.out];exact ZN) hm 2 (by omega) rfl;rw[e4,<-fd] at this;exact this
   have q3:h wr (Q t (j*6+3) U)=T (Z U 0 0):=cE (by rw[<-ZJ.out];exact ZN) hm 3 (by omega) rfl;have q4:h wr (Q t (j*6+4) U)=T (Z X o D):=by have:=cE (by rw[<-ZJ.out];exact ZN) hm 4 (by omega) rfl;rw[Kw,<-Ky] at this;exact this
   have q5:h wr (Q t (j*6+5) U)=T (ZD ZG):=by have:=cE (by rw[<-ZJ.out];exact ZN) hm 5 (by omega) rfl;rw[e2] at this;exact this
   have ZR:Hid (∀V,Below wr.heap.size wr V->h V (Q hb 2 U)=T (Z (T (Q t 0 U)) ZO cm)/\h V (Q hb 3 U)=T (Z (T (Q go 0 U)) n co)/\h V (Q go i U)=T (Y x.e)/\h V (Q t (j*6) U)=T (Y x.e)/\h V (Q t (j*6+1) U)=T (J I y)/\h V (Q t (j*6+2) U)=T (Y rt)/\h V (Q t (j*6+3) U)=T (Z U 0 0)/\h V (Q t (j*6+4) U)=T (Z X o D)/\h V (Q t (j*6+5) U)=T (ZD ZG)):=λV g=>⟨(g.cell (p:=(Q hb 2 U)) Lu).trans h2,(g.cell (p:=(Q hb 3 U)) Lu).trans h3,(g.cell (p:=(Q go i U)) Mq).trans oc,(g.cell (p:=(Q t _ U)) mv).trans q0,(g.cell (p:=(Q t _ U)) mv).trans q1,(g.cell (p:=(Q t _ U)) mv).trans q2,(g.cell (p:=(Q t _ U)) mv).trans q3,(g.cell (p:=(Q t _ U)) mv).trans q4,(g.cell (p:=(Q t _ U)) mv).trans q5⟩
   have CT:Hid (∀V,Below wr.heap.size wr V->Calls Pg 131 #[.pointer (T (Q hb 0 U)),Y x.e] V λe w'=>e=ZF (J I (j:Int))/\w'=V):=λV g=>by
    have ZS:=K.aa g ly;refine(vH V x.e B ZS.c2 ZS.W (by rw[<-ZJ.out];omega)).mono λe w' ⟨he,hw⟩=>⟨?_,hw⟩
    rw[he,hf];rfl
   have HX:=ae hx;have MH:=ae La;have LI:=ae fd;have Fd:=ae Ky;have Lb:=ae At;have hj0:(0:Int)<=(j:Int):=by omega
   have hjI:(j:Int)<ZO:=by omega
   have hi0:(0:Int)<=(i:Int):=by omega
   have hiI:(i:Int)<n:=by omega
   clear DS ZN At Kw hx hf hm e1 e2 e3 e4 e5 La fd Ky;go_upto_region 5 with fail;go_cut [5] (λs wx=>s=.pointer (T (Q wr.heap.size 0 U))/\wx=(A wr (N #[Y x.e,J I y,Y rt,Z U 0 0,Z X o D,ZD ZG] 198)).drew);case first =>
    clear h2 h3 oc q0 q1 q2 q3 q4 q5
    go_region_held3 (λV=>h V (Q hb 2 U)=T (Z (T (Q t 0 U)) ZO cm)/\h V (Q hb 3 U)=T (Z (T (Q go 0 U)) n co)/\h V (Q go i U)=T (Y x.e)/\h V (Q t (j*6) U)=T (Y x.e)/\h V (Q t (j*6+1) U)=T (J I y)/\h V (Q t (j*6+2) U)=T (Y rt)/\h V (Q t (j*6+3) U)=T (Z U 0 0)/\h V (Q t (j*6+4) U)=T (Z X o D)/\h V (Q t (j*6+5) U)=T (ZD ZG)) (first|exact ZR _ br|exact ZR _ br.drew|exact ZR _ (br.drew.alloc ly _)|exact ZR _ (br.alloc ly _).drew|exact ZR _ ((((((((q9 wr).drew.alloc ly _).setCell ly _).setCell ly _).setCell ly _).setCell ly _).setCell ly _).setCell ly _)) (first
     |(go_at_call 131;refine(CT _ (by first|exact br.drew|exact dB _ _|exact br.drew.alloc ly _)).mono ?_;rintro e w5 ⟨rfl,rfl⟩))
    all_goals
     go_wp2_with fail;go_meet;exact⟨rfl,rfl⟩
   case rest =>
   obtain⟨rfl,rfl⟩:=hcut;have B5:=ae ((q9 wr).alloc ly (N #[Y x.e,J I y,Y rt,Z U 0 0,Z X o D,ZD ZG] 198)).drew;have m5:Hid ((A wr (N #[Y x.e,J I y,Y rt,Z U 0 0,Z X o D,ZD ZG] 198)).drew.heap[wr.heap.size]?=T (N #[Y x.e,J I y,Y rt,Z U 0 0,Z X o D,ZD ZG] 198 (0,0))):=nL wr _;have KE:(A wr (N #[Y x.e,J I y,Y rt,Z U 0 0,Z X o D,ZD ZG] 198)).drew.heap.size=wr.heap.size+1:=by simp[World.drew]
   clear h2 h3 oc q0 q1 q2 q3 q4 q5 ZR CT;generalize World.drew (World.alloc wr _)=W5 at B5 m5 KE ⊢;have p0:h W5 (Q wr.heap.size 0 U)=T (Y x.e):=by simp[World.cell?,m5.out]
   obtain⟨W6,Hx⟩:∃W:M,A W5 (N #[Y x.e,J I 0,J I 0,Y ⟨#[]⟩,Z U 0 0,Z U 0 0] 46)=W:=⟨_,rfl⟩
   obtain⟨A6,-,-⟩:=nb1 Hx;have bt:=ae Hx;clear Hx;have B6:=ae (B5.trans (A6.mono B5.size));have X6:Hid (DBox W6 (wr.heap.size+1) (Y x.e) (J I 0) (J I 0) (Y ⟨#[]⟩) (Z U 0 0) (Z U 0 0)):=by
    cases bt.out
    have ZS:=oN W5 (Y x.e) (J I 0) (J I 0) (Y ⟨#[]⟩) (Z U 0 0) (Z U 0 0) 46;rw[KE] at ZS;exact ZS
   have m6:Hid (W6.heap[wr.heap.size]?=T (N #[Y x.e,J I y,Y rt,Z U 0 0,Z X o D,ZD ZG] 198 (0,0))):=by cases bt.out;exact(A6.block _ (by omega)).trans m5
   have Ms:W6.heap.size=wr.heap.size+2:=by cases bt.out;simp[KE]
   go_upto_region 7 with fail;rw[bt.out];clear bt;clear p0 B5 m5 A6 KE;have Fm:=ae (K.aa B6 ly);have KN:=ae (B4.trans (B6.mono (by omega)));have ZR:Hid (∀V,Below W6.heap.size W6 V->h V (Q hb 0 U)=T (Z a0 S.n0 c0)/\h V (Q hb 1 U)=T (Z a1 S.n1 c1)/\h V (Q wr.heap.size 0 U)=T (Y x.e)):=λV g=>⟨(g.cell (p:=(Q hb 0 U)) Fm.lt).trans Fm.c0,(g.cell (p:=(Q hb 1 U)) Fm.lt).trans Fm.c1,(g.cell (p:=(Q wr.heap.size 0 U)) (by show wr.heap.size<_;omega)).trans (by simp[World.cell?,m6.out])⟩
   obtain⟨ZL,hT⟩:∃ZL,ZL=ej (atI (nm1 S.f1) S.n1 x.e):=⟨_,rfl⟩
   have CT:Hid (∀V,Below W6.heap.size W6 V->Calls Pg 52 #[.agg #[Z a0 S.n0 c0,Z a1 S.n1 c1],Y x.e] V λe w'=>e=ZF (J I ZL)/\Below V.heap.size V w'):=λV g=>by rw[hT];exact iZ a0 S.n0 c0 a1 S.n1 c1 S.f1 x.e V (by have:=Kt.av;omega) (V1.aa (KN.trans (g.mono KN.size)) ly)
   have HT:=ae hT;clear hT
   go_region_held3 (λV=>h V (Q hb 0 U)=T (Z a0 S.n0 c0)/\h V (Q hb 1 U)=T (Z a1 S.n1 c1)/\h V (Q wr.heap.size 0 U)=T (Y x.e)) (first|exact ZR _ br|exact ZR _ br.drew|exact ZR _ D7) (first
    |(go_at_call 52;refine(CT _ (by first|exact br.drew|exact dB _ _)).mono ?_;rintro e ZK ⟨rfl,ph⟩;have D7:Hid (Below W6.heap.size W6 ZK):=⟨ph.os,ph.tape,ph.output,ph.size,ph.block⟩;clear ph))
   have B7:=ae (B6.trans (D7.mono B6.size));have X7:=ae (X6.aa D7 X6.lt);have m7:=ae ((D7.block _ (ai m6)).trans m6);have KZ:wr.heap.size+2<=ZK.heap.size:=by have:=D7.size;omega
   have k7:=ae ((B7.block _ (ai k4)).trans k4);have LX:=ae ((B7.block _ (ai dg)).trans dg);have qr:=ae (K.aa B7 ly);have KB:=ae (B4.trans (B7.mono (by omega)));have Lr:=LB HX.out;have Lz:=ae (L9.ents x Lr);clear D7 ZR CT X6 m6 Fm KN B6 Ms Lr;go_upto_if 46 with fail;go_cut [8,9] (λ_ _ wx=>∃(aa al:Option Addr) (na nl ca F:Nat),Hid (DBox wx (wr.heap.size+1) (Y x.e) (J I x.m) (J I x.E) (Y x.B) (Z aa na ca) (Z al nl F))/\Hid (DSub wx wr.heap.size (iW S f x,Z aa na ca,Z al nl F))/\Hid (Below wr.heap.size wr wx));case first =>
    rcases Lz.m with ⟨hk,sm,DE,si,LQ,KM⟩|⟨hk,sm,KM,DE,Lf,Fn⟩|⟨hk,Lf,Fn⟩
    rotate_left 2
    ·have HK:=ae hk;have Li:dQ x=⟨x.E,x.B,[]⟩:=by unfold dQ;rw[gM (by omega)]
     have KF:Hid (rt=x.B/\y=x.E):=⟨by rw[LI.out,Li],by rw[MH.out,Li]⟩
     have hns2:o<=200:=by rw[Fd.out];exact Lz.looks
     have KQ:=(cW Fn).1;have Le:ZL=(x.tg:Int):=by rw[HT.out,Fn];rfl
     have LU:fx S x=(S.f1 x.tg).f:=by unfold fx;rw[p6 hk]
     obtain⟨O,KD⟩:∃O,O=(S.f1 x.tg).f:=⟨_,rfl⟩
     have MJ:Hid (fx S x=O):=LU.trans KD.symm;have hn4m:O<=1048576:=by rw[KD];exact Mv x.tg KQ
     have hn41:1<=O:=by obtain⟨_,hv,_⟩:=bP (Kt.H x.tg KQ);omega
     obtain⟨tb,tf,Mt,fd⟩:=V1.resolve_left (by omega);subst Le Mt;obtain⟨-,ia,ic,ro,Lv⟩:=fd.2 x.tg KQ;have KV:=fd.1;obtain⟨ib,io,rfl,Lc⟩:=Lv.resolve_left (by omega);rw[<-KD] at ro Lc;have MM:=ae Lc;have Lt:=ae ro;clear hk Li LU KD Lf Fn fd Lv Lc ro;have q1:h ZK (Q wr.heap.size 1 U)=T (J I y):=by simp[World.cell?,m7.out]
     have q2:h ZK (Q wr.heap.size 2 U)=T (Y rt):=by simp[World.cell?,m7.out]
     obtain⟨d1,Ma⟩:=X7.c1;obtain⟨d2,ME⟩:=X7.c2;obtain⟨d3,LP⟩:=X7.c3;have Md:=X7.lt;have htg0:(0:Int)<=(x.tg:Int):=by omega
     have X9:=ae (((X7.set1 (J I 3)).set2 (J I y)).set3 (Y rt));have m9:Hid ((((ZK.setCell (Q (wr.heap.size+1) 1 U) (J I 3)).setCell (Q (wr.heap.size+1) 2 U) (J I y)).setCell (Q (wr.heap.size+1) 3 U) (Y rt)).heap[wr.heap.size]?=T (N #[Y x.e,J I y,Y rt,Z U 0 0,Z X o D,ZD ZG] 198 (0,0))):=(qh _ _ _ _ (show wr.heap.size≠wr.heap.size+1 by omega)).trans ((qh _ _ _ _ (show wr.heap.size≠wr.heap.size+1 by omega)).trans ((qh _ _ _ _ (show wr.heap.size≠wr.heap.size+1 by omega)).trans m7.out));have B9:=ae (((B7.setCell (p:=(Q (wr.heap.size+1) 1 U)) (F6 _) (J I 3)).setCell (p:=(Q (wr.heap.size+1) 2 U)) (F6 _) (J I y)).setCell (p:=(Q (wr.heap.size+1) 3 U)) (F6 _) (Y rt));have Mb:wr.heap.size+2<=(((ZK.setCell (Q (wr.heap.size+1) 1 U) (J I 3)).setCell (Q (wr.heap.size+1) 2 U) (J I y)).setCell (Q (wr.heap.size+1) 3 U) (Y rt)).heap.size:=by simpa using KZ
     go_upto_region 12 with fail;generalize World.setCell (World.setCell (World.setCell ZK _ _) _ _) _ _=W9 at X9 m9 B9 Mb ⊢;clear d1 Ma d2 ME d3 LP q1 q2 Md X7 m7 B7 k7 LX qr KB KZ;have KC:=ae (B4.trans (B9.mono (by omega)));have KX:=ae (K.aa B9 ly);have MF:=KX.c1;have Mk:=KX.lt;have tc:=(KC.cell (p:=(Q tb (tf+x.tg*2+1) U)) KV).trans Lt;have Mi:tb<W9.heap.size:=lj KV KC.size;have htgI:(x.tg:Int)<(S.n1:Int):=by omega
     go_wp2_with fail;refine(jl ib io O ic (S.f1 x.tg).H W9 (by omega) (MM.aa KC ly)).mono ?_;rintro e LH ⟨g4,c4,rfl,Lo,th⟩;have Id:=ae (X9.aa th X9.lt);obtain⟨d4,MI⟩:=Id.c4;have KO:=ae (Id.set4 (Z (T (Q g4 0 U)) O c4));have Lp:Hid ((LH.setCell (Q (wr.heap.size+1) 4 U) (Z (T (Q g4 0 U)) O c4)).heap[wr.heap.size]?=T (N #[Y x.e,J I y,Y rt,Z U 0 0,Z X o D,ZD ZG] 198 (0,0))):=(qh _ _ _ _ (show wr.heap.size≠wr.heap.size+1 by omega)).trans ((th.block _ (ai m9)).trans m9);have KP:=ae (aQ (R:=wr.heap.size+1) (j:=4) (aB Lo (show wr.heap.size+2<=W9.heap.size by omega)) (by omega) (Z (T (Q g4 0 U)) O c4));have Ll:=ae ((B9.trans (th.mono B9.size)).setCell (p:=(Q (wr.heap.size+1) 4 U)) (F6 _) (Z (T (Q g4 0 U)) O c4));have Ls:=Id.lt;clear Lo th tc MF;go_wp2;generalize World.setCell LH _ _=W11 at KO Lp KP Ll ⊢;clear d4 MI Id Ls X9 m9 B9 KC KX Mk Mi Mb;obtain⟨r,MC⟩:∃r,r=wr:=⟨_,rfl⟩
     subst MC;go_loopw [8] (λv wq=>∃(k:Nat) (al:Option Addr) (F:Nat),k<=o/\v=J I k/\LkI S f x y rt X o D g4 O c4 r al k F wq) (λv _=>o - (intOf v).toNat);case atStart=>exact⟨0,U,0,by omega,rfl,KO,Lp,KP,A9 _ _ _ _,Ll⟩
     case round =>
      clear KO Lp KP Ll;obtain⟨k,al,F,hk,rfl,Kz,Lj,KT,Ln,ur⟩:=hrel;have m4:h wr (Q r.heap.size 4 U)=T (Z X o D):=by simp[World.cell?,Lj.out]
      have ml:=ai Lj.out;have hz12:r.heap.size+2<=wr.heap.size:=Kz.lt;by_cases DE:k<o
      ·obtain⟨l,hl⟩:∃l,x.looks[k]?=T l:=⟨_,gq (by rw[<-Fd.out];exact DE)⟩
       obtain⟨E,sc',e⟩:=cC Lb (by omega);simp only[N1,TF] at e;obtain⟨rfl,rfl⟩:=e;have LZ:=(dM Lb).2;have sn:∀j,j<3->∀u,[Value.string l.e,ZD l.ask,ZD l.has][j]?=T u->h wr (Q E (k*3+j) U)=T u:=λj hj u hu=>(ur.cell (p:=(Q E (k*3+j) U)) LZ).trans (Dq (by have ZS:=Lb.out;rw[Fd.out] at ZS;exact ZS) hl j hj hu);have f0:=sn 0 (by omega) _ rfl;have f1:=sn 1 (by omega) _ rfl;have f2:=sn 2 (by omega) _ rfl;rw[show k*3+0=k*3 by omega] at f0;have GS:E<wr.heap.size:=lj LZ ur.size;have HL:=ae hl;have ZR:Hid (∀V,Below wr.heap.size wr V->h V (Q r.heap.size 4 U)=T (Z (T (Q E 0 U)) o D)/\h V (Q E (k*3) U)=T (Y l.e)/\h V (Q E (k*3+1) U)=T (ZD l.ask)/\h V (Q E (k*3+2) U)=T (ZD l.has)):=λV g=>⟨(g.cell (p:=(Q r.heap.size 4 U)) ml).trans m4,(g.cell (p:=(Q E _ U)) GS).trans f0,(g.cell (p:=(Q E _ U)) GS).trans f1,(g.cell (p:=(Q E _ U)) GS).trans f2⟩
       have hk0:(0:Int)<=(k:Int):=by omega
       have hkI:(k:Int)<o:=by omega
       clear sn hl;go_upto_region 16 with fail;go_cut [9] (λs wx=>s=.pointer (T (Q wr.heap.size 0 U))/\wx=(A wr (N #[Y l.e,ZD l.ask,ZD l.has,J I 0] 91)).drew);case first =>
        clear m4 f0 f1 f2;go_region_held3 (λV=>h V (Q r.heap.size 4 U)=T (Z (T (Q E 0 U)) o D)/\h V (Q E (k*3) U)=T (Y l.e)/\h V (Q E (k*3+1) U)=T (ZD l.ask)/\h V (Q E (k*3+2) U)=T (ZD l.has)) (first|exact ZR _ br|exact ZR _ br.drew|exact ZR _ (br.drew.alloc ly _)|exact ZR _ (br.alloc ly _).drew|exact ZR _ ((((((q9 wr).drew.alloc ly _).setCell ly _).setCell ly _).setCell ly _).setCell ly _)) (fail);all_goals
         go_wp2_with fail;go_meet;exact⟨rfl,rfl⟩
       case rest =>
       obtain⟨rfl,rfl⟩:=hcut;have la:=ae ((q9 wr).alloc ly (N #[Y l.e,ZD l.ask,ZD l.has,J I 0] 91)).drew;have ZQ:Hid ((A wr (N #[Y l.e,ZD l.ask,ZD l.has,J I 0] 91)).drew.heap[wr.heap.size]?=T (N #[Y l.e,ZD l.ask,ZD l.has,J I 0] 91 (0,0))):=nL wr _;clear m4 f0 f1 f2 ZR;generalize World.drew (World.alloc wr _)=ZI at la ZQ ⊢;have Kx:=ae (Kz.aa la Kz.lt);have KJ:=ae ((la.block _ ml).trans Lj);have Ld:=ae (own_below KT la ly);have Lq:=ae (own_below Ln la ly);have ld:=ae (ur.trans (la.mono ur.size));have k1:h ZI (Q wr.heap.size 1 U)=T (ZD l.ask):=by simp[World.cell?,ZQ.out]
       go_upto_if 94 with fail;clear k1;go_cut [] (λwx=>∃q:Int,Hid (cQ (lkD f l)=[Y l.e,ZD l.ask,ZD l.has,J I q])/\Hid (wx.heap[wr.heap.size]?=T (N #[Y l.e,ZD l.ask,ZD l.has,J I q] 91 (0,0)))/\LkI S f x y rt (T (Q E 0 U)) o D g4 O c4 r al k F wx);case first =>
        cases hask:l.ask with
        |false =>go_wp2;go_meet;exact⟨0,by show _=_;simp[cQ,lkD,hask],ZQ,Kx,KJ,Ld,Lq,ld⟩
        |true =>
         obtain⟨q,hq⟩:∃q:Int,q=((pp f l.e:Nat):Int):=⟨_,rfl⟩
         have Mc:=ae ((ld.block _ (ai k4)).trans k4);have ac:h ZI (Q (w.heap.size+1) 0 U)=T (Z P i c5):=by simp[World.cell?,Mc.out]
         have acl:=ai Mc.out;have MG:h ZI (Q wr.heap.size 0 U)=T (Y l.e):=by simp[World.cell?,ZQ.out]
         have CA:Hid (Calls Pg 62 #[.agg #[Z P i c5],Y l.e] ZI λe w'=>e=ZF (J I q)/\Below ZI.heap.size ZI w'):=by
          have hd:SlDeed ZI P i (dF (R.map (·.1))):=by have ZS:=D4.aa ld.out ly;rw[<-Fk] at ZS ⊢;exact ZS.ak
          have ZS:=DO P i c5 (dF (R.map (·.1))) l.e ZI (by omega) hd;rw[F7 L9.out HX.out (LB HL.out) hask Lg.out,<-hq] at ZS;exact ZS
         have HQ:=ae hq;clear hq;go_wp2_with fail;refine CA.mono ?_;rintro e Ku ⟨rfl,ZM⟩;have Bk:=(ZM.block _ (ai ZQ)).trans ZQ;have q3:h Ku (Q wr.heap.size 3 U)=T (J I 0):=by simp[World.cell?,Bk]
         have qf3:Ku.frozen? (Q wr.heap.size 3 U)=ZA:=by simp[World.frozen?,Bk]
         have ql3:=ai Bk;have ZP:Hid ((Ku.setCell (Q wr.heap.size 3 U) (J I q)).heap[wr.heap.size]?=T (N #[Y l.e,ZD l.ask,ZD l.has,J I q] 91 (0,0))):=ay Bk _;have aq:=ae ((Kx.aa ZM Kx.lt).far (p:=(Q wr.heap.size 3 U)) (by show wr.heap.size≠r.heap.size+1;omega) (J I q));have DH:Hid ((Ku.setCell (Q wr.heap.size 3 U) (J I q)).heap[r.heap.size]?=T (N #[Y x.e,J I y,Y rt,Z U 0 0,Z (T (Q E 0 U)) o D,ZD ZG] 198 (0,0))):=(qh _ _ _ _ (show r.heap.size≠wr.heap.size by omega)).trans ((ZM.block _ (ai KJ)).trans KJ);have JT:=ae (aA (own_below Ld ZM ly) (b:=wr.heap.size) (λe=>by have:=(KT.lt _ e).2;omega) 3 (J I q));have Kv:=ae (aA (own_below Lq ZM ly) (b:=wr.heap.size) (λe=>by have:=(Ln.lt _ e).2;omega) 3 (J I q));have DQ:=ae ((ld.trans (ZM.mono ld.size)).setCell (p:=(Q wr.heap.size 3 U)) (by show r.heap.size<=wr.heap.size;omega) (J I q));clear Bk ZM ac MG;go_wp2;go_meet;exact⟨q,by show _=_;simp[cQ,lkD,hask,HQ.out],ZP,aq,DH,JT,Kv,DQ⟩
       case rest =>
       obtain⟨q,Mz,ZP,aq,DH,JT,Kv,DQ⟩:=hcut;clear ZQ Kx KJ Ld Lq ld;generalize wc=G at ZP aq DH JT Kv DQ ⊢;have l0:h G (Q wr.heap.size 0 U)=T (Y l.e):=by simp[World.cell?,ZP.out]
       have l1:h G (Q wr.heap.size 1 U)=T (ZD l.ask):=by simp[World.cell?,ZP.out]
       have l2:h G (Q wr.heap.size 2 U)=T (ZD l.has):=by simp[World.cell?,ZP.out]
       have l3:h G (Q wr.heap.size 3 U)=T (J I q):=by simp[World.cell?,ZP.out]
       have ll:=ai ZP.out;obtain⟨e5,ef5⟩:=aq.c5;have AL:=ae ((q9 G).alloc ly (N #[Y l.e,ZD l.ask,ZD l.has,J I q] 91));have XA:=ae (aq.aa AL aq.lt);have mA:=ae ((AL.block _ (ai DH)).trans DH);have OA:=ae (own_below JT AL ly);have PA:=ae (own_below Kv AL ly);have BA:=ae (DQ.trans (AL.mono DQ.size));have Mx:(A G (N #[Y l.e,ZD l.ask,ZD l.has,J I q] 91)).heap.size=G.heap.size+1:=by simp
       have hzW:r.heap.size+2<=G.heap.size:=aq.lt;go_wp2_with (at_builtin;refine BS _ rfl (.tmp 101) (.tmp 103) 44 rfl (r.heap.size+2) 91 il (.agg #[Y ⟨#[]⟩,ZD ZA,ZD ZA,J I 0]) 4 32 QV ML Mh Mm Ml rfl (by decide) (Z al k F) k (lkV f (x.looks.take k)) (by simp[Act.eval]) PA.out (Q G.heap.size 0 U) 1 1 [Y l.e,ZD l.ask,ZD l.has,J I q] (by simp[Act.eval]) rfl (ID G _ _ _ _ _) (by simp[Value.oneCell']) (by unfold maxLen;omega) (by omega) (by omega) ?_;intro v' wz H C _;obtain⟨az,cz,rfl⟩:=iq H;rw[<-Mz.out,<-F0 f x.looks HL.out] at H;have PZ:=ae H;have GZ:=ae C;have XZ:=ae (XA.grown PA C (AP _));obtain⟨z5,zf5⟩:=XZ.c5;have zl:=XZ.lt;clear H C);have XY:=ae (XZ.set5 (Z az (k+1) cz));have mY:Hid ((wz.setCell (Q (r.heap.size+1) 5 U) (Z az (k+1) cz)).heap[r.heap.size]?=T (N #[Y x.e,J I y,Y rt,Z U 0 0,Z (T (Q E 0 U)) o D,ZD ZG] 198 (0,0))):=(qh _ _ _ _ (show r.heap.size≠r.heap.size+1 by omega)).trans ((GZ.block _ (ai mA) (λe=>by have:=(PA.lt _ e.symm).1;omega)).trans mA);have OY:=ae (aQ (R:=r.heap.size+1) (j:=5) (Dp OA PA GZ (by decide)) (by omega) (Z az (k+1) cz));have PY:=ae (aQ (R:=r.heap.size+1) (j:=5) PZ (by omega) (Z az (k+1) cz));have BY:=ae ((bg BA GZ (by omega) (λj e=>by have:=(PA.lt j e).1;omega)).setCell (p:=(Q (r.heap.size+1) 5 U)) (F6 _) (Z az (k+1) cz));exact⟨⟨k+1,az,cz,by omega,by go_num,XY,mY,OY,PY,BY⟩,by simp[intOf];omega⟩
      ·have e:k=o:=by omega
       subst e;have XT:Hid (DBox wr (r.heap.size+1) (Y x.e) (J I x.m) (J I x.E) (Y x.B) (Z (T (Q g4 0 U)) O c4) (Z al k F)):=by show DBox _ _ _ _ _ _ _ _;rw[HK.out,<-KF.1,<-KF.2];exact Kz
       have ST:Hid (DSub wr r.heap.size (iW S f x,Z (T (Q g4 0 U)) O c4,Z al k F)):=by
        refine⟨?_,?_⟩;{show World.ownsRow wr r.heap.size 151 3 (Z (T (Q g4 0 U)) O c4) (fx S x) (bJ (S.f1 x.tg).H (fx S x));rw[MJ.out];exact aB KT (by omega)};{show World.ownsRow wr r.heap.size 91 4 (Z al k F) x.looks.length (bq (lkF f x.looks) x.looks.length);rw[IC,<-Fd.out];have ZS:=Ln.out;rw[IU (by rw[<-Fd.out];exact n6 _)] at ZS;exact aB ZS (by omega)}
       go_wp2;go_meet;exact⟨_,_,_,_,_,_,XT,ST,ur⟩
    all_goals
     obtain⟨z,hz⟩:∃z,z=ej (atI (nm0 S.f0) S.n0 x.e):=⟨_,rfl⟩
     have HK:=ae hk;have LV:=ae sm;have Mr:=ae KM;have ZR:Hid (∀V,Below ZK.heap.size ZK V->h V (Q hb 0 U)=T (Z a0 S.n0 c0)/\h V (Q hb 1 U)=T (Z a1 S.n1 c1)/\h V (Q wr.heap.size 0 U)=T (Y x.e)):=λV g=>⟨(g.cell (p:=(Q hb 0 U)) qr.lt).trans qr.c0,(g.cell (p:=(Q hb 1 U)) qr.lt).trans qr.c1,(g.cell (p:=(Q wr.heap.size 0 U)) (by show wr.heap.size<_;omega)).trans (by simp[World.cell?,m7.out])⟩
     have CT:Hid (∀V,Below ZK.heap.size ZK V->Calls Pg 51 #[.agg #[Z a0 S.n0 c0,Z a1 S.n1 c1],Y x.e] V λe w'=>e=ZF (J I z)/\Below V.heap.size V w'):=λV g=>by rw[hz];exact iY a0 S.n0 c0 a1 S.n1 c1 S.f0 x.e V (by have:=Kt.av;omega) (V0.aa (KB.trans (g.mono KB.size)) ly)
     have HZ:=ae hz;have Le:ZL=-1:=by rw[HT.out,show atI (nm1 S.f1) S.n1 x.e=U by first|exact Fn|exact oJ Kt.out LQ];rfl
     subst Le;clear hk sm KM hz;go_wp2_with fail
     go_region_held3 (λV=>h V (Q hb 0 U)=T (Z a0 S.n0 c0)/\h V (Q hb 1 U)=T (Z a1 S.n1 c1)/\h V (Q wr.heap.size 0 U)=T (Y x.e)) (first|exact ZR _ br|exact ZR _ br.drew|exact ZR _ D8) (first
      |(go_at_call 51;refine(CT _ (by first|exact br.drew|exact dB _ _)).mono ?_;rintro e w8 ⟨rfl,n9⟩;have D8:Hid (Below ZK.heap.size ZK w8):=⟨n9.os,n9.tape,n9.output,n9.size,n9.block⟩;clear n9))
     have X8:=ae (X7.aa D8 X7.lt);have B8:=ae (B7.trans (D8.mono B7.size));obtain⟨d1,Ma⟩:=X8.c1;have Md:=X8.lt
    ·obtain rfl:z=(si:Int):=by rw[HZ.out,LQ];rfl
     have KF:Hid (rt=x.B):=by show rt=x.B;rw[LI.out];unfold dQ;rw[gM (by rw[HK.out];decide)]
     have hsi0:(0:Int)<=(si:Int):=by omega
     obtain⟨d3,LP⟩:=X8.c3;have m8:=(D8.block _ (ai m7)).trans m7;have q2:h w8 (Q wr.heap.size 2 U)=T (Y rt):=by simp[World.cell?,m8]
     have BT:=ae ((B8.setCell (p:=(Q (wr.heap.size+1) 1 U)) (F6 _) (J I 1)).setCell (p:=(Q (wr.heap.size+1) 3 U)) (F6 _) (Y rt));clear m8;go_wp2;go_meet;exact⟨U,U,0,0,0,0,(by show DBox _ _ _ _ _ _ _ _;rw[HK.out,LV.out,<-KF.out];exact(X8.set1 _).set3 _),vP (by unfold fx;rw[gM (by rw[HK.out];decide)]) DE _ _,BT⟩
    ·obtain rfl:z=-1:=by rw[HZ.out,Lf];rfl
     have BT:=ae (B8.setCell (p:=(Q (wr.heap.size+1) 1 U)) (F6 _) (J I 2));go_wp2;go_meet;exact⟨U,U,0,0,0,0,(by show DBox _ _ _ _ _ _ _ _;rw[HK.out,LV.out,Mr.out];exact X8.set1 _),vP (by unfold fx;rw[gM (by rw[HK.out];decide)]) DE _ _,BT⟩
   case rest =>
   obtain⟨aa,al,na,nl,ca,F,XT,ST,BT⟩:=hcut;have kT:=ae ((BT.block _ (ai k4)).trans k4);have Lh:=ae ((BT.block _ (ai dg)).trans dg);clear X7 m7 k7 LX qr KB B7 KZ;generalize wc=W8 at XT ST BT kT Lh ⊢;obtain⟨t0,_⟩:=XT.c0;obtain⟨t1,_⟩:=XT.c1;obtain⟨t2,_⟩:=XT.c2;obtain⟨t3,_⟩:=XT.c3;obtain⟨t4,_⟩:=XT.c4;obtain⟨t5,_⟩:=XT.c5;have kc:h W8 (Q (w.heap.size+1) 0 U)=T (Z P i c5):=by simp[World.cell?,kT.out]
   have AL:=ae ((q9 W8).alloc ly (N #[Y x.e,J I x.m,J I x.E,Y x.B,Z aa na ca,Z al nl F] 46));have DA:=ae (D4.aa (BT.trans (AL.mono BT.size)) ly);have SA:=ae (ST.aa AL ly);have kA:=ae ((AL.block _ (ai kT)).trans kT);have Lx:=ae ((AL.block _ (ai Lh)).trans Lh);have BA:=ae (B4.trans ((BT.trans (AL.mono BT.size)).mono (by omega)));have OW:Hid (World.ownsRow (A W8 (N #[Y x.e,J I x.m,J I x.E,Y x.B,Z aa na ca,Z al nl F] 46)) (w.heap.size+2) 46 6 (Z P i c5) i (R.flatMap ddV)):=by have ZS:=DA.i;rw[Fk] at ZS;exact ZS
   have KU:Hid (∀j,(Value.slice P i c5).ownBlock=T j->w.heap.size+2<=j):=λj e=>(OW.lt j e).1;have Mx:(A W8 (N #[Y x.e,J I x.m,J I x.E,Y x.B,Z aa na ca,Z al nl F] 46)).heap.size=W8.heap.size+1:=by simp
   have hzT:=BT.size;go_wp2_with (at_builtin;refine BS _ rfl (.tmp 121) (.tmp 123) 35 rfl (w.heap.size+2) 46 MO (.agg #[Y ⟨#[]⟩,J I 0,J I 0,Y ⟨#[]⟩,Z U 0 0,Z U 0 0]) 6 96 OT MD Mf Mn Mj rfl (by decide) (Z P i c5) i (R.flatMap ddV) (by simp[Act.eval]) OW.out (Q W8.heap.size 0 U) 1 1 [Y x.e,J I x.m,J I x.E,Y x.B,Z aa na ca,Z al nl F] (by simp[Act.eval]) rfl (JF W8 _ _ _ _ _ _ _) (by simp[Value.oneCell']) (by unfold maxLen;omega) (by omega) (by omega) ?_;intro v' w9 H C _;obtain⟨a7,c7,rfl⟩:=iq H;have O9:=ae H;have G9:=ae C;have k9:=ae ((C.block _ (ai kA) (λe=>by have:=KU.out _ e.symm;omega)).trans kA);have g9:h w9 (Q (w.heap.size+1) 0 U)=T (Z P i c5):=(by simp[World.cell?,k9.out]);have f9:w9.frozen? (Q (w.heap.size+1) 0 U)=ZA:=(by simp[World.frozen?,k9.out]);have l9:=ai k9.out;clear H C);have D9:Hid (DRow w9 (w.heap.size+2) (Z a7 (i+1) c7) (R++[(iW S f x,Z aa na ca,Z al nl F)])):=DRow.more D4 DA (by omega) SA (by rw[Fk];exact O9) G9;have MA:=ae ((G9.block _ (ai Lx) (λe=>by have:=KU.out _ e.symm;omega)).trans Lx);have B9:=ae (bg BA G9 (by omega) (λj e=>by have:=KU.out j e;omega));have MN:=ae (D9.set (p:=(Q (w.heap.size+1) 0 U)) (e:=37) (.inl (AP _)) (Z a7 (i+1) c7));have MP:Hid ((w9.setCell (Q (w.heap.size+1) 0 U) (Z a7 (i+1) c7)).heap[w.heap.size+1]?=T (N #[Z a7 (i+1) c7] 37 (0,0))):=ay k9 _;have Mg:Hid ((w9.setCell (Q (w.heap.size+1) 0 U) (Z a7 (i+1) c7)).heap[w.heap.size]?=T (N #[Z U 0 0] 37 (0,0))):=(qh _ _ _ _ (show w.heap.size≠w.heap.size+1 by omega)).trans MA.out;have Mw:=ae (B9.setCell (p:=(Q (w.heap.size+1) 0 U)) (F6 _) (Z a7 (i+1) c7));refine⟨⟨i+1,a7,c7,_,by omega,by go_num,by rw[cM,Fk];rfl,?_,MN,MP,Mg,Mw⟩,by simp[intOf];omega⟩;show(R++[((iW S f x,Z aa na ca,Z al nl F):DR)]).map (·.1)=_;rw[DN,Lg.out,TV,HX.out];simp
  ·have e:i=n:=by omega
   subst e;have Mp:h wr (Q w.heap.size 0 U)=T (Z U 0 0):=by simp[World.cell?,dg.out]
   have rf0:wr.frozen? (Q w.heap.size 0 U)=ZA:=by simp[World.frozen?,dg.out]
   have rl0:=ai dg.out;have ac0:h wr (Q (w.heap.size+1) 0 U)=T (Z P i c5):=by simp[World.cell?,k4.out]
   have al0:=ai k4.out;go_wp2;refine bp (v:=.agg #[Z P i c5]) (by simp[results,results72,go_sem,Mp]) rfl ?_;subst Fk;refine⟨P,c5,R,rfl,?_,?_,?_⟩;{exact(D4.set (p:=(Q w.heap.size 0 U)) (e:=37) (.inl (show w.heap.size<w.heap.size+2 by omega)) _).mono (by omega)};{rw[Lg.out,IU (by rw[<-HN.out];exact n6 _)];rfl};{exact B4.setCell (p:=(Q w.heap.size 0 U)) ly _}
end
def vQ (w:M)(S:Spc)(b:List Ent × kY)(e:Ending)(f:M):Prop:=∃a c R g,e=ZF (.tuple #[.agg #[Z a R.length c],g])/\DRow f w.heap.size (Z a R.length c) R/\R.map (·.1)=ik S b.1/\t6 w f b.2 g/\Below w.heap.size w f
section
variable {S:Spc}{a0 a1:Option Addr}{c0 c1:Nat}
theorem vR (w:M)(nm:ByteArray)(r:SlSource w a0 S.n0 S.f0)(u:SlTarget w a1 S.n1 S.f1)(hn0:S.n0<=1048576)(hn1:S.n1<=1048576)(o:∀i,i<S.n1->cT (S.f1 i))(D:∀i,i<S.n1->∀j,j<(S.f1 i).f->((S.f1 i).H j).s.size<=maxLen)(l:¬ (ce S.n0 S.f0 S.n1 S.f1=0/\aw nm=ZG)):Calls Pg 21 #[.agg #[Z a0 S.n0 c0,Z a1 S.n1 c1],Y nm] w λe K=>vQ w S ([],⟨9,⟨#[]⟩,[]⟩) e K:=by
 have z:=ae (λ(n:M) (b:Hid (Below w.heap.size w n))=>fB a0 S.n0 c0 S.f0 a1 S.n1 c1 S.f1 n (by omega) (by omega) (r.aa b ly) (u.aa b ly) o D);obtain⟨x,t⟩:∃x,x=ce S.n0 S.f0 S.n1 S.f1:=⟨_,rfl⟩
 rw[<-t] at z l;have B:=ae l;clear r u o D t l hn0 hn1;go_enter func21,ntmps21;go_wp2_with fail;generalize C:World.alloc (World.alloc (World.alloc w _) _) _=n;obtain⟨b,ZP,g,c,-⟩:=nb3 C;replace c:Hid (n.heap[w.heap.size+1+1]?=_):=c;clear C;refine(z n b).mono ?_;clear z;rintro e G ⟨rfl,f⟩;replace b:=ae (b.trans (f.mono b.size));replace g:=ae ((f.block _ (ai g)).trans g);replace c:=ae ((f.block _ (ai c)).trans c);clear f ZP;by_cases E:x=0;case' pos =>
  have F:Hid (aw nm=ZA):=by
   cases ZS:aw nm with
   |false=>rfl
   |true=>exact absurd ⟨E,ZS⟩ B
  subst E;go_wp2_with fail;refine(dc nm G).mono ?_;rintro e y ⟨ZR,f⟩;rw[F.out] at ZR;subst ZR;replace b:=ae (b.trans (f.mono b.size));replace g:=ae ((f.block _ (ai g)).trans g);replace c:=ae ((f.block _ (ai c)).trans c);clear f
 case' neg =>
  obtain⟨y,L⟩:∃v,v=G:=⟨_,rfl⟩
  subst L
 all_goals
  have H:=b;have m:=g.out;obtain⟨rl,r0,r1,ZQ,q⟩:=bv c.out;have rf0:=q 0;have rf1:=q 1;have rf2:=q 2;have ZN:h y (Q (w.heap.size+1) 0 U)=T (Z U 0 0):=by simp[World.cell?,m]
  have pf0:y.frozen? (Q (w.heap.size+1) 0 U)=ZA:=by simp[World.frozen?,m]
  have pl:=ai m;clear q m g c;go_wp2_with fail;refine bp (v:=.tuple #[.agg #[Z U 0 0],.agg #[J I 9,Y ⟨#[]⟩,Z U 0 0]]) (by simp[results,results21,go_sem,ZN,r0,r1,ZQ]) rfl ⟨U,0,[],_,rfl,cA _ _,rfl,Do _ _ _ _,?_⟩;exact(((H.setCell (p:=(Q (w.heap.size+1) 0 U)) (F6 _) _).setCell (p:=(Q (w.heap.size+1+1) 0 U)) (by show w.heap.size<=w.heap.size+1+1;omega) _).setCell (p:=(Q (w.heap.size+1+1) 1 U)) (by show w.heap.size<=w.heap.size+1+1;omega) _).setCell (p:=(Q (w.heap.size+1+1) 2 U)) (by show w.heap.size<=w.heap.size+1+1;omega) _
theorem xA (w:M)(nm:ByteArray)(ld:SlSource w a0 S.n0 S.f0)(dg:SlTarget w a1 S.n1 S.f1)(hn0:S.n0<=1048576)(hn1:S.n1<=1048576)(ZL:∀i,i<S.n1->cT (S.f1 i))(hs:∀i,i<S.n1->∀j,j<(S.f1 i).f->((S.f1 i).H j).s.size<=maxLen)(h1:ce S.n0 S.f0 S.n1 S.f1=0)(h2:aw nm=ZG):Calls Pg 21 #[.agg #[Z a0 S.n0 c0,Z a1 S.n1 c1],Y nm] w λe w'=>vQ w S (ci S nm) e w':=by
 have HC:=ae (λ(W0:M) (A0:Hid (Below w.heap.size w W0))=>fB a0 S.n0 c0 S.f0 a1 S.n1 c1 S.f1 W0 (by omega) (by omega) (ld.aa A0 ly) (dg.aa A0 ly) ZL hs);have V0:=ae ld;have V1:=ae dg;have Kw:=ae ZL;have DH:=ae (SpcOk.of h1);have H1:=ae h1;have H2:=ae h2;rw[h1] at HC;obtain⟨bb,O⟩:∃bb,bb=ci S nm:=⟨_,rfl⟩
 obtain⟨fd,o,-⟩:=qA S nm;rw[<-O] at fd o ⊢;unfold ci at O;rw[p6 ⟨h1,h2⟩] at O;have aq:=ae O;have Ky:=ae fd;have Fk:=ae o;clear ld dg ZL hs hn0 hn1 h1 h2 O fd o;go_enter func21,ntmps21;go_wp2_with fail;generalize hW:World.alloc (World.alloc (World.alloc w _) _) _=W0;obtain⟨A0,kS,kA,kR,-⟩:=nb3 hW;replace kR:Hid (W0.heap[w.heap.size+1+1]?=_):=kR;clear hW;refine(HC W0 A0).mono ?_;clear HC;rintro e w1 ⟨rfl,m⟩;have B1:=ae (A0.trans (m.mono A0.size));have At:=ae ((m.block _ (ai kA)).trans kA);have sm:=ae ((m.block _ (ai kR)).trans kR);have ro:=ae ((m.block _ (ai kS)).trans kS);clear m;go_wp2_with fail;refine(dc nm w1).mono ?_;rintro e ZI ⟨he,m⟩;rw[H2.out] at he;subst he;have B2:=ae (B1.trans (m.mono B1.size));have qr:=ae ((m.block _ (ai At)).trans At);have th:=ae ((m.block _ (ai sm)).trans sm);have ph:=ae ((m.block _ (ai ro)).trans ro);have hsl:w.heap.size<ZI.heap.size:=ai ph.out;have q0:h ZI (Q w.heap.size 0 U)=T (Z a0 S.n0 c0):=by simp[World.cell?,ph.out]
 have q1:h ZI (Q w.heap.size 1 U)=T (Z a1 S.n1 c1):=by simp[World.cell?,ph.out]
 clear m;go_wp2_with fail;refine(xy ZI ⟨V0.aa B2 ly,V1.aa B2 ly,DH⟩ nm H2).mono ?_;rintro e f ⟨hb,rfl,l,m⟩;have B3:=ae (B2.trans (m.mono B2.size));have u:=ae ((m.block _ (ai qr)).trans qr);have t:=ae ((m.block _ (ai th)).trans th);clear q0 q1 m;have ZQ:w.heap.size<=f.heap.size:=B3.size;have z:=xz S 60 [] [] nm;rcases hl:bH S 60 [] [] nm with ⟨y,x⟩|c|d
 ·rw[hl] at l;obtain⟨r,n⟩:∃r,r=dQ x:=⟨_,rfl⟩
  have e:bb=(y,r):=by rw[aq.out,hl,n]
  subst e;obtain⟨L,md,or,st,g,DQ,ur,DE,hrel⟩:=l;obtain⟨ZP,b0,b1,b2,b3,-,b5,b6,b7,b8,-⟩:=g.K;have Kx:Hid (ShAt ZI.heap.size f hb (Z a0 S.n0 c0) (Z a1 S.n1 c1) md or L y):=⟨ZP,b0,b1,b2,b3,DQ,ur,DE⟩
  have Fm:=ae hrel;have mv:r.j=[]:=by rw[n];unfold dQ;split<;>rfl
  rw[<-n] at b5 b6;have la:=ae mv;have SQ:Hid (∀V:M,V.heap[hb]?=f.heap[hb]?->h V (Q hb 5 U)=T (J I r.E)/\h V (Q hb 6 U)=T (Y r.B)/\h V (Q hb 7 U)=T (Z U 0 0)):=λV ZS=>⟨(cq (a:=(Q hb 5 U)) ZS).trans b5,(cq (a:=(Q hb 6 U)) ZS).trans b6,(cq (a:=(Q hb 7 U)) ZS).trans b7⟩
  have ZJ:hb≠w.heap.size+1:=λe=>by have:=ar g (e ▸ u.out);exact absurd this (by decide)
  have F:hb≠w.heap.size+1+1:=λe=>by have:=ar g (e ▸ t.out);exact absurd this (by decide)
  have CM:Hid (Calls Pg 72 #[.pointer (T (Q hb 0 U))] f.drew λe w'=>∃a c R,e=ZF (.agg #[Z a R.length c])/\DRow w' f.heap.size (Z a R.length c) R/\R.map (·.1)=ik S y/\Below f.heap.size f w'):=by have hd:Below f.heap.size f f.drew:=br.drew;have ZS:=Aq ZI.heap.size f.drew hb md or L y (Kx.aa hd ly) Fm Ky Fk (V0.aa (B3.trans (hd.mono ZQ)) ly) (V1.aa (B3.trans (hd.mono ZQ)) ly) DH Kw;exact ZS.mono λe w' ⟨a,c,R,h1,h2,h3,h4⟩=>⟨a,c,R,h1,h2,h3,h4.os,h4.tape,h4.output,h4.size,h4.block⟩
  clear n mv hrel g DQ ur DE b0 b1 b2 b3 hl z;go_wp2_with fail;refine wp_region_held_drew (S:=λV=>h V (Q hb 5 U)=T (J I r.E)/\h V (Q hb 6 U)=T (Y r.B)/\h V (Q hb 7 U)=T (Z U 0 0)) (by kernel_rfl) (SQ _ rfl) ?_;intro hS;have H:=ae hS;clear hS b5 b6 b7 b8;refine bI 0 (v:=?_) rfl rfl (by kernel_rfl) (λ_ _ _ ZS=>ZS) rfl ?_ H ?_;rotate_left
  ·(rintro wz ⟨s0,s1,s2⟩;go_simp)
   (try with_reducible rfl)
  (try simp only[Act.put,nzL])
  iterate 4
   refine bI 2 (v:=?_) rfl rfl (by kernel_rfl) (λ_ _ _ ZS=>ZS) rfl ?_ H ?_;rotate_left
   ·(rintro wz ⟨s0,s1,s2⟩;go_simp)
    (try with_reducible rfl)
   (try simp only[Act.put,nzL])
  refine aS (i:=1) rfl (by kernel_rfl) λK C=>?_;go_simp;go_at_call 72;refine CM.mono ?_;rintro e w4 ⟨W,c5,R,rfl,DS,Fd,Bk⟩;have D4:=ae DS;have M4:=ae Fd;have ZK:=ae Bk;clear DS Fd Bk H;have H:=ae (SQ w4 (ZK.block _ ZP));refine C _ _ H ?_;clear C K
  (try simp only[Act.put,nzL])
  refine aS (i:=6) rfl (by kernel_rfl) λK C=>?_;go_simp;go_at_call 71;have CC:=qG w4 r U 0 w4.heap.size (by rw[la.out];exact⟨rfl,.inl ⟨rfl,rfl⟩⟩) (by rw[la.out];exact E4 _);rw[la.out] at CC;refine CC.mono ?_;clear CC;rintro e ZN ⟨rv,rfl,⟨ZR,D,rfl,ZM⟩,P⟩;have B:=ae ZM;have G:=ae P;have X:f.heap.size<=w4.heap.size:=ZK.size;have q:=(G.block _ (lj (ai u) X)).trans ((ZK.block _ (ai u)).trans u);have ZO:=(G.block _ (lj (ai t) X)).trans ((ZK.block _ (ai t)).trans t);obtain⟨rl,r0,r1,r2,E⟩:=bv ZO;have Id:=E 0;have Ku:=E 1;have Kz:=E 2;have p0:h ZN (Q (w.heap.size+1) 0 U)=T (Z U 0 0):=by simp[World.cell?,q]
  have Fn:ZN.frozen? (Q (w.heap.size+1) 0 U)=ZA:=by simp[World.frozen?,q]
  have pl:=ai q;have Kt:w.heap.size+1<f.heap.size:=ai u.out;have JT:w.heap.size+1+1<f.heap.size:=ai t.out;have bt:=(G.block hb (lj ZP X)).trans (ZK.block hb ZP);clear E q ZO H ZM P;have H:=ae (SQ ZN bt);refine C _ _ H ?_;clear C K
  (try simp only[Act.put,nzL])
  refine aS (i:=7) rfl (by kernel_rfl) λK C=>?_;go_simp;have Hx:=ae (SQ (ZN.setCell (Q (w.heap.size+1) 0 U) (Z W R.length c5)) ((qh _ _ _ _ ZJ).trans bt));refine C _ _ Hx ?_;clear C K
  (try simp only[Act.put])
  have Kv:=ae (SQ ((((ZN.setCell (Q (w.heap.size+1) 0 U) (Z W R.length c5)).setCell (Q (w.heap.size+1+1) 0 U) (J I r.E)).setCell (Q (w.heap.size+1+1) 1 U) (Y r.B)).setCell (Q (w.heap.size+1+1) 2 U) (Z ZR r.j.length D)) ((qh _ _ _ _ F).trans ((qh _ _ _ _ F).trans ((qh _ _ _ _ F).trans ((qh _ _ _ _ ZJ).trans bt)))));refine aS (i:=8) rfl (by kernel_rfl) λK C=>?_;go_simp;refine C _ _ Kv ?_;clear C K
  (try simp only[Act.put])
  refine wpAnyH_done (by kernel_rfl) ?_ _;have OF:=ae (aA (aA (aA (aA B (b:=w.heap.size+1) (λe=>by have:=(aj B _ e).1;omega) 0 (Z W R.length c5)) (b:=w.heap.size+1+1) (λe=>by have:=(aj B _ e).1;omega) 0 (J I r.E)) (b:=w.heap.size+1+1) (λe=>by have:=(aj B _ e).1;omega) 1 (Y r.B)) (b:=w.heap.size+1+1) (λe=>by have:=(aj B _ e).1;omega) 2 (Z ZR r.j.length D));have DF:=ae (((((D4.aa G ly).set (p:=(Q (w.heap.size+1) 0 U)) (e:=37) (.inl (by show w.heap.size+1<f.heap.size;omega)) (Z W R.length c5)).set (p:=(Q (w.heap.size+1+1) 0 U)) (e:=37) (.inl (by show w.heap.size+1+1<f.heap.size;omega)) (J I r.E)).set (p:=(Q (w.heap.size+1+1) 1 U)) (e:=37) (.inl (by show w.heap.size+1+1<f.heap.size;omega)) (Y r.B)).set (p:=(Q (w.heap.size+1+1) 2 U)) (e:=37) (.inl (by show w.heap.size+1+1<f.heap.size;omega)) (Z ZR r.j.length D));have BF:=ae (((((B3.trans ((ZK.trans (G.mono X)).mono ZQ)).setCell (p:=(Q (w.heap.size+1) 0 U)) (by show w.heap.size<=w.heap.size+1;omega) (Z W R.length c5)).setCell (p:=(Q (w.heap.size+1+1) 0 U)) (by show w.heap.size<=w.heap.size+1+1;omega) (J I r.E)).setCell (p:=(Q (w.heap.size+1+1) 1 U)) (by show w.heap.size<=w.heap.size+1+1;omega) (Y r.B)).setCell (p:=(Q (w.heap.size+1+1) 2 U)) (by show w.heap.size<=w.heap.size+1+1;omega) (Z ZR r.j.length D));go_wp2;refine bp (v:=.tuple #[.agg #[Z W R.length c5],.agg #[J I r.E,Y r.B,Z ZR r.j.length D]]) (by simp[results,results21,go_sem,p0,r0,r1,r2]) rfl ⟨W,c5,R,_,rfl,DF.mono ZQ,M4,⟨ZR,D,rfl,aB OF (by omega)⟩,BF⟩
 case' inr.inl =>
  rw[hl] at l;obtain⟨r,n⟩:∃r,r=jA c:=⟨_,rfl⟩
  have e:bb=([],r):=by rw[aq.out,hl,n];rfl
  subst e;obtain⟨a,k,u0,u1,md,or,st,g,ho⟩:=l;have o:r.j.length<=1000:=by rw[n];exact p7 (z c hl) (by simp)
  have l:c.length=r.j.length:=by rw[n];rfl
  rw[<-n,l] at g ho;clear n l
 case' inr.inr =>
  rw[hl] at l;obtain⟨r,n⟩:∃r,r=jB d:=⟨_,rfl⟩
  have e:bb=([],r):=by rw[aq.out,hl,n];rfl
  subst e;obtain⟨u0,u1,md,or,st,g,ho⟩:=l;have o:r.j.length<=1000:=by rw[n];exact E4 _
  have l:0=r.j.length:=by rw[n];rfl
  rw[<-n,l] at g ho;clear n l
 all_goals
  obtain⟨ZP,-,-,-,-,-,b5,b6,b7,b8,-⟩:=g.K;have GS:=ae (qG f r _ _ _ ho o);have ZJ:hb≠w.heap.size+1:=λe=>by have:=ar g (e ▸ u.out);exact absurd this (by decide)
  have F:hb≠w.heap.size+1+1:=λe=>by have:=ar g (e ▸ t.out);exact absurd this (by decide)
  clear hl z g ho o;go_wp2_with fail;refine GS.mono ?_;rintro e ZN ⟨rv,rfl,⟨ZR,D,rfl,ZM⟩,P⟩;have B:=ae ZM;have G:=ae P;have q:=(G.block _ (ai u)).trans u;have ZO:=(G.block _ (ai t)).trans t;obtain⟨rl,r0,r1,r2,E⟩:=bv ZO;have Id:=E 0;have Ku:=E 1;have Kz:=E 2;have p0:h ZN (Q (w.heap.size+1) 0 U)=T (Z U 0 0):=by simp[World.cell?,q]
  have Fn:ZN.frozen? (Q (w.heap.size+1) 0 U)=ZA:=by simp[World.frozen?,q]
  have pl:=ai q;have Kt:w.heap.size+1<f.heap.size:=ai u.out;have JT:w.heap.size+1+1<f.heap.size:=ai t.out;have OF:=ae (aA (aA (aA (aA B (b:=w.heap.size+1) (λe=>by have:=(aj B _ e).1;omega) 0 (Z U 0 0)) (b:=w.heap.size+1+1) (λe=>by have:=(aj B _ e).1;omega) 0 (J I r.E)) (b:=w.heap.size+1+1) (λe=>by have:=(aj B _ e).1;omega) 1 (Y r.B)) (b:=w.heap.size+1+1) (λe=>by have:=(aj B _ e).1;omega) 2 (Z ZR r.j.length D));have BF:=ae (((((B3.trans (G.mono ZQ)).setCell (p:=(Q (w.heap.size+1) 0 U)) (by show w.heap.size<=w.heap.size+1;omega) (Z U 0 0)).setCell (p:=(Q (w.heap.size+1+1) 0 U)) (by show w.heap.size<=w.heap.size+1+1;omega) (J I r.E)).setCell (p:=(Q (w.heap.size+1+1) 1 U)) (by show w.heap.size<=w.heap.size+1+1;omega) (Y r.B)).setCell (p:=(Q (w.heap.size+1+1) 2 U)) (by show w.heap.size<=w.heap.size+1+1;omega) (Z ZR r.j.length D));clear E q ZO ZM P b5 b6 b7 b8;go_wp2_with fail;refine bp (v:=.tuple #[.agg #[Z U 0 0],.agg #[J I r.E,Y r.B,Z ZR r.j.length D]]) (by simp[results,results21,go_sem,p0,r0,r1,r2]) rfl ⟨U,0,[],_,rfl,cA _ _,rfl,⟨ZR,D,rfl,?_⟩,?_⟩
  ·first|exact aB OF (by omega)|(have ZS:=aB OF (show w.heap.size<=f.heap.size by omega);simpa[p0] using ZS)
  ·first|exact BF|simpa[p0] using BF.out
theorem vS (w:M)(nm:ByteArray)(c:SlSource w a0 S.n0 S.f0)(f:SlTarget w a1 S.n1 S.f1)(hn0:S.n0<=1048576)(hn1:S.n1<=1048576)(b:∀i,i<S.n1->cT (S.f1 i))(g:∀i,i<S.n1->∀j,j<(S.f1 i).f->((S.f1 i).H j).s.size<=maxLen):Calls Pg 21 #[.agg #[Z a0 S.n0 c0,Z a1 S.n1 c1],Y nm] w λe l=>vQ w S (ci S nm) e l:=by
 by_cases ZS:ce S.n0 S.f0 S.n1 S.f1=0/\aw nm=ZG;{exact xA w nm c f hn0 hn1 b g ZS.1 ZS.2}
 ·have e:ci S nm=([],⟨9,⟨#[]⟩,[]⟩):=by unfold ci;rw[gM ZS]
  rw[e];exact vR w nm c f hn0 hn1 b g ZS
end
