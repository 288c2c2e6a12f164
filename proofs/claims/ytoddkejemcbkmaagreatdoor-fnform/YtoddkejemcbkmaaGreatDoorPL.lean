import Derived.Test.YtoddkejemcbkmaaGreatDoorPF
import Derived.Deep.RegionHeld3
import Derived.Defers
import Derived.Recover
set_option maxRecDepth 100000
set_option maxHeartbeats 4000000
open Go renaming Addr.mk->Q,Value.slice->Z,Value.string->U,Value.int->J,Obj.cells->N,IntKind.i64->I,World->M,Value->ZC,Ending.returned->ZF,World.alloc->A
open Option renaming none->Y,some->T
open Bool renaming false->ZA
namespace Go.Proofs.YtoddkejemcbkmaaGreatDoor.Vp
open Tryz RowKit Go.Maps Ca
def sY (w b:M)(r:kM)(v:ZC):Prop:=∃a c,v=.agg #[J I r.B,U r.h,Z a r.j.length c]/\b.ownsRow w.heap.size 9 1 (Z a r.j.length c) r.j.length (bZ r.j)
theorem Ce (w b:M)(c:Int)(t:ByteArray):sY w b ⟨c,t,[]⟩ (.agg #[J I c,U t,Z Y 0 0]):=⟨Y,0,rfl,⟨rfl,.inl ⟨rfl,rfl⟩⟩⟩
section
variable {S:Spc}{a0 a1:Option Addr}{c0 c1:Nat}
theorem Fb (S:Spc):ei S [] []<=S.n1:=by have:=Q9 (p:=jq S [] []) (l:=List.range S.n1);rw[List.length_range] at this;exact this
end
def Hd (f:M)(hb:Nat)(i j:ZC)(b:M):Out Ent->Prop
 |.inl (made',x)=>∃L h g st,ShBox b hb i j h g st (dP x).B (dP x).h (Z Y 0 0) ZA/\b.ownsRow f.heap.size 179 6 h L.length (L.flatMap smV)/\b.ownsRow f.heap.size 9 1 g made'.length (bZ (made'.map (·.e)))/\(∀m∈L,m.done=true->b.ownsRow f.heap.size 181 3 m.sv m.c.length (eC m.c))/\fB L [] made'
 |.inr (.inl c)=>∃a k,i8 f hb b (jr c) (Z a c.length k)
 |.inr (.inr d)=>i8 f hb b (js d) (Z Y 0 0)
section
variable {S:Spc}{a0 a1:Option Addr}{c0 c1:Nat}
theorem wE (w:M)(C:o7 w S a0 a1)(nm:ByteArray)(hn:aw nm=true):Calls Tryz.prog 73 #[.agg #[Z a0 S.n0 c0,Z a1 S.n1 c1],U nm] w λe ZQ=>∃hb,e=ZF (.pointer (T (Q hb 0 Y)))/\Hd w hb (Z a0 S.n0 c0) (Z a1 S.n1 c1) ZQ (bG S 60 [] [] nm)/\Below w.heap.size w ZQ:=by
 obtain⟨R,hR⟩:∃R,R=bG S 60 [] [] nm:=⟨_,rfl⟩
 have HM:Hid (∀(W:M) (hb:Nat),SI w hb (Z a0 S.n0 c0) (Z a1 S.n1 c1) W [] [] [] (Z Y 0 0) (Z Y 0 0) (Z Y 0 0)->Calls Tryz.prog 116 #[.pointer (T (Q hb 0 Y)),U nm] W λe ZQ=>mf w hb (Z a0 S.n0 c0) (Z a1 S.n1 c1) [] [] W e ZQ R):=by intro W hb K;rw[hR];refine EY C 60 [] [] [] _ _ _ W nm rfl K ⟨List.Pairwise.nil,rfl,λx z=>absurd z nj,λx z=>absurd z nj,λx z=>absurd z nj⟩ (mX S []) ?_ (λx z=>absurd z nj) hn;have h1:=Fb S;have h2:=C.ok.av;unfold eZ;simp only[nX];omega
 rw[<-hR];have ZJ:(A w (N #[Z a0 S.n0 c0,Z a1 S.n1 c1] 44)).heap.size=w.heap.size+1:=by simp
 obtain⟨W0,y⟩:∃W:M,(A w (N #[Z a0 S.n0 c0,Z a1 S.n1 c1] 44)).alloc (N #[Z a0 S.n0 c0,Z a1 S.n1 c1,Z Y 0 0,Z Y 0 0,Z Y 0 0,J I 0,U ⟨#[]⟩,Z Y 0 0,.bool ZA] 132)=W:=⟨_,rfl⟩
 obtain⟨O,-,-,-⟩:=nb2 y;have ZR:=ae y;clear y;have S0:Hid (SI w (w.heap.size+1) (Z a0 S.n0 c0) (Z a1 S.n1 c1) W0 [] [] [] (Z Y 0 0) (Z Y 0 0) (Z Y 0 0)):=by
  cases ZR.out
  refine⟨O,F3 _,?_,⟨rfl,.inl ⟨rfl,rfl⟩⟩,⟨rfl,.inl ⟨rfl,rfl⟩⟩,⟨rfl,.inl ⟨rfl,rfl⟩⟩,(λk h=>by cases h),λm ZK=>absurd ZK nj⟩;have h2:=n6 (A w (N #[Z a0 S.n0 c0,Z a1 S.n1 c1] 44)) (N #[Z a0 S.n0 c0,Z a1 S.n1 c1,Z Y 0 0,Z Y 0 0,Z Y 0 0,J I 0,U ⟨#[]⟩,Z Y 0 0,.bool ZA] 132);rw[ZJ] at h2;exact h2
 clear hn C hR ZJ;go_enter func73,ntmps73;go_wp2_with fail;rw[ZR.out];clear ZR;obtain⟨hb,ZM⟩:∃hb,hb=w.heap.size+1:=⟨_,rfl⟩
 rw[<-ZM] at S0 ⊢;have H:w.heap.size<=hb:=by omega
 clear ZM;refine(HM W0 hb S0).mono ?_;clear HM;rintro e q l;rcases R with ⟨made',x⟩|c|d
 ·obtain⟨L,md,or,st,rfl,K,hrel,-,f⟩:=l;have r:=ae (O.trans f.aa);have aq:=ae hrel;obtain⟨D,ZP⟩:∃D,D=(dP x).B:=⟨_,rfl⟩
  obtain⟨rt,G⟩:∃rt,rt=(dP x).h:=⟨_,rfl⟩
  have fd:=ae ZP;have V:=ae G;rw[<-ZP,<-G];have i:=ae ((q9 q).alloc ly (N #[J I D,U rt,Z Y 0 0] 84));have B:=ae (K.aa i ly);clear f hrel K ZP G;obtain⟨P,-,-,-,-,-,b5,b6,b7,b8,ZO⟩:=B.H.D;have bf5:=ZO 5;have bf6:=ZO 6;have bf7:=ZO 7;clear ZO;go_wp2_with fail;go_ret;have t:∀{size n:Nat} {ZN:TypeId} {u:ZC} {ZL:List ZC},(q.alloc (N #[J I D,U rt,Z Y 0 0] 84)).ownsRow w.heap.size ZN size u n ZL->132≠ZN->((((q.alloc (N #[J I D,U rt,Z Y 0 0] 84)).setCell (Q hb 5 Y) (J I D)).setCell (Q hb 6 Y) (U rt)).setCell (Q hb 7 Y) (Z Y 0 0)).ownsRow w.heap.size ZN size u n ZL:=λhr ht=>by
   rename_i size n ZN u ZL;have F:u.ownBlock≠T hb:=λe=>by obtain⟨_,_,cs2,dg⟩:=aj hr hb e;exact absurd (ar B.H dg) ht
   exact aB (aB (aB hr F _ _) F _ _) F _ _
  refine⟨hb,rfl,⟨L,md,or,st,?_,t B.W (by decide),t B.ror (by decide),λm ZK hd=>t (B.c m ZK hd) (by decide),aq⟩,?_⟩;{rw[<-fd.out,<-V.out];exact ay (ay (ay B.H (j:=5) _) (j:=6) _) (j:=7) _};{exact(((r.trans (i.mono r.size)).setCell (p:=(Q hb 5 Y)) H _).setCell (p:=(Q hb 6 Y)) H _).setCell (p:=(Q hb 7 Y)) H _}
 {obtain⟨a,k,rfl,⟨s0,s1,bt,X,ZI,g,b⟩,f⟩:=l;have o:=ae g;have E:=ae b;have r:=ae (O.trans f.aa);clear g b f;unfold ji jr;dsimp only;have i:=ae ((q9 q).alloc ly (N #[J I 6,U ⟨#[]⟩,Z a c.length k] 84));have s:=ae (ShBox.ab o (i.block _ (ai o)));obtain⟨P,-,-,-,-,-,-,-,-,b8,-⟩:=s.D;go_wp2_with fail;go_ret;exact⟨hb,rfl,⟨a,k,_,_,_,_,_,s,own_below E i ly⟩,r.trans (i.mono r.size)⟩};{obtain⟨rfl,⟨s0,s1,bt,X,ZI,g,b⟩,f⟩:=l;have o:=ae g;have E:=ae b;have r:=ae (O.trans f.aa);clear g b f;unfold ji js;dsimp only;have i:=ae ((q9 q).alloc ly (N #[J I 7,U d,Z Y 0 0] 84));have s:=ae (ShBox.ab o (i.block _ (ai o)));obtain⟨P,-,-,-,-,-,-,-,-,b8,-⟩:=s.D;go_wp2_with fail;go_ret;exact⟨hb,rfl,⟨_,_,_,_,_,s,own_below E i ly⟩,r.trans (i.mono r.size)⟩}
end
theorem Fc (w:M)(z:Int)(rt:ByteArray)(C:List ByteArray)(a:Option Addr)(n c B:Nat)(hn:n=C.length)(hlen:n<=1000)(ZL:w.ownsRow B 9 1 (Z a n c) n (bZ C)):Calls Tryz.prog 74 #[.agg #[J I z,U rt,Z a n c]] w λe ZK=>∃rv,e=ZF rv/\sY w ZK ⟨z,rt,C⟩ rv/\Below w.heap.size w ZK:=by
 obtain⟨i1,ZM,la,dg,fd⟩:=lp o8;have HO:=ae ZL;have F:=ae hn;clear ZL hn;obtain⟨b,x⟩:∃W:M,(A w (N #[J I z,U rt,Z a n c] 84)).alloc (N #[J I 0,U ⟨#[]⟩,Z Y 0 0] 84)=W:=⟨_,rfl⟩
 obtain⟨L,kP,kR,-⟩:=nb2 x;have G:=ae x;clear x;go_enter func74,ntmps74;go_upto_region 1 with fail;rw[G.out];clear G;obtain⟨-,p0,X,p2,-⟩:=bu kP;have S:w.heap.size+1<b.heap.size:=ai kR.out;have E:Hid (∀V:M,(∀k,k<b.heap.size->V.heap[k]?=b.heap[k]?)->V.cell? (Q w.heap.size 0 Y)=T (J I z)/\V.cell? (Q w.heap.size 1 Y)=T (U rt)/\V.cell? (Q w.heap.size 2 Y)=T (Z a n c)):=λV ZQ=>by have e:=cq (a:=(Q w.heap.size 0 Y)) (ZQ w.heap.size (by omega));have e1:=cq (a:=(Q w.heap.size 1 Y)) (ZQ w.heap.size (by omega));have e2:=cq (a:=(Q w.heap.size 2 Y)) (ZQ w.heap.size (by omega));exact⟨e.trans p0,e1.trans X,e2.trans p2⟩
 have D:=ae (E b.drew (λk s=>rfl));refine aE (λV=>V.cell? (Q w.heap.size 0 Y)=T (J I z)/\V.cell? (Q w.heap.size 1 Y)=T (U rt)/\V.cell? (Q w.heap.size 2 Y)=T (Z a n c)) 9 (by kernel_rfl) ?_;clear p0 X p2;iterate 4
  refine aI 0 (v:=?_) rfl rfl (by kernel_rfl) (λ_ _ _ h=>h) rfl ?_ D ?_;rotate_left
  ·(rintro ZJ ⟨s0,R,ZI⟩;go_simp)
   (try with_reducible rfl)
  (try simp only[Act.put,nzL])
 iterate 2
  refine aI 5 (v:=?_) rfl rfl (by kernel_rfl) (λ_ _ _ h=>h) rfl ?_ D ?_;rotate_left
  ·(rintro ZJ ⟨s0,R,ZI⟩;go_simp)
   (try with_reducible rfl)
  (try simp only[Act.put,nzL])
 refine ag (i:=4) rfl (by kernel_rfl) λK m=>?_;go_simp;have ZN:=ae (((q9 b).drew).alloc ly (N #[] 9));refine m _ _ (λ_=>E _ (λk s=>ZN.block k s)) ?_;clear m K
 (try simp only[Act.put,nzL])
 have f:Hid (Below b.heap.size b (A b (N #[] 9)).drew):=((q9 b).alloc ly _).drew;have o:Hid ((A b (N #[] 9)).drew.ownsRow b.heap.size 9 1 (Z (T (Q b.heap.size 0 Y)) 0 0) 0 []):=own_below (nJ b 9 1) br.drew ly;have ZO:Hid ((A b (N #[] 9)).drew.ownsRow B 9 1 (Z a n c) n (bZ C)):=own_below (own_below HO L ly) f ly;refine ag (i:=7) rfl (by kernel_rfl) λK m=>?_;obtain⟨-,⟨P,h0⟩|⟨g,cap,cur,P,-⟩⟩:=id ZO.out;focus
  have e0:C=[]:=NL.1 (F.out.symm.trans h0);cases P
  subst e0;go_simp;have y:=f;obtain⟨a1,c1,ea,ZP⟩:∃a1 c1,(Z a1 0 c1:ZC)=Z (T (Q b.heap.size 0 Y)) 0 0/\Hid ((A b (N #[] 9)).drew.ownsRow b.heap.size 9 1 (Z a1 0 c1) 0 (bZ [])):=⟨_,_,rfl,o⟩
  rw[<-ea];clear f o ZO ZN ea;refine m _ _ (λ_=>E _ (λk s=>y.block k s)) ?_;generalize (A b (N #[] 9)).drew=O at y ZP ⊢
 rotate_left;focus
  cases P
  refine aA (w:=(A b (N #[] 9)).drew) rfl (.tmp 7) (.tmp 9) 66 rfl b.heap.size 9 i1 (U ⟨#[]⟩) 1 16 IH ZM la dg fd rfl (by decide) (Z (T (Q b.heap.size 0 Y)) 0 0) 0 [] (by simp[Act.eval]) o.out (Q g 0 Y) n c (bZ C) (by simp[Act.eval]) (by rw[bZ,PK,<-F.out,Nat.mul_one]) (λq u h=>ZO.cells (g:=g) rfl q u h) (λu hu=>by rw[bZ,PC] at hu;obtain⟨t,_,rfl⟩:=hu;rfl) (by unfold maxLen;omega) (by omega) f.size ?_;intro v1 O l ZR bt;have y:Hid (Below b.heap.size b O):=f.trans (bg (eL b.heap.size _) ZR f.size (λj e=>(o.lt j e).1));rw[F6,MH] at l;have ZP:=ae l;obtain⟨a1,c1,rfl⟩:=jU l;clear l ZR bt f o ZO ZN;refine m _ _ (λ_=>E _ (λk s=>y.block k s)) ?_
 all_goals
  clear m K
  (try simp only[Act.put,nzL])
  have aq:=ae (E O (λk s=>y.block k s));clear D;have D:=ae aq.out;refine aI 8 (v:=?_) rfl rfl (by kernel_rfl) (λ_ _ _ h=>h) rfl ?_ D ?_;rotate_left
  ·(rintro ZJ ⟨s0,R,ZI⟩;go_simp)
   (try with_reducible rfl)
  (try simp only[Act.put,nzL])
  obtain⟨rl,r0,r1,r2,H⟩:=bu ((y.block _ S).trans kR);have rf0:=H 0;have rf1:=H 1;have rf2:=H 2;clear H;refine ag (i:=9) rfl (by kernel_rfl) λK m=>?_;go_simp;refine m _ _ (λh=>absurd rfl h) ?_;clear m K D
  (try simp only[Act.put])
  refine aW (by kernel_rfl) ?_ _;go_wp2_with fail;first|refine bp (v:=.agg #[J I z,U rt,Z a1 n c1]) (by simp[results,results74,go_sem,r0,r1,r2]) rfl ⟨_,rfl,⟨a1,c1,by rw[<-F.out],?_⟩,?_⟩|refine bp (v:=.agg #[J I z,U rt,Z a1 0 c1]) (by simp[results,results74,go_sem,r0,r1,r2]) rfl ⟨_,rfl,⟨a1,c1,by rw[<-F.out],?_⟩,?_⟩
  ·show World.ownsRow _ _ _ _ _ (List.length _) _
   rw[<-F.out];refine aC (aB (aB (aB ZP (λe=>?_) _ _) (λe=>?_) _ _) (λe=>?_) _ _) L.size;all_goals
    have:=(aj ZP _ e).1;omega
  ·exact(((L.trans (y.mono L.size)).setCell (p:=(Q (w.heap.size+1) 0 Y)) (F3 _) _).setCell (p:=(Q (w.heap.size+1) 1 Y)) (F3 _) _).setCell (p:=(Q (w.heap.size+1) 2 Y)) (F3 _) _
theorem qe (w:M)(r:kM)(a:Option Addr)(c B:Nat)(g:w.ownsRow B 9 1 (Z a r.j.length c) r.j.length (bZ r.j))(b:r.j.length<=1000):Calls Tryz.prog 74 #[.agg #[J I r.B,U r.h,Z a r.j.length c]] w λe i=>∃h,e=ZF h/\sY w i r h/\Below w.heap.size w i:=by obtain⟨j,rt,f⟩:=r;simp only at g b ⊢;exact Fc w j rt f a f.length c B rfl b g
theorem zy {S:Spc}{f:List Ent->ByteArray->Out Ent}{t K:Nat}(l:∀b nm c,f b nm=.inr (.inl c)->c.length<=K):∀k b i g c,dV S f t k b i g=.inr (.inl c)->c.length<=K:=by
 intro k;induction k with
 |zero=>intro b i g c h;cases h
 |succ k j =>
  intro b i g c h;rw[dV] at h;split at h;{cases h}
  ·split at h;{exact j _ _ _ _ h}
   ·split at h;{exact j _ _ _ _ h}
    ·rename_i c' m;cases h
     exact l _ _ _ m
    {cases h}
theorem wF (S:Spc):∀n b f nm c,bG S n b f nm=.inr (.inl c)->c.length<=b.length+n:=by
 intro n;have g:∀b f nm c (K:Nat) (tgt:Nat->Out Ent),b.length<=K->(∀t c,tgt t=.inr (.inl c)->c.length<=K)->fQ S tgt b f nm=.inr (.inl c)->c.length<=K:=by
  intro b f nm c K tgt hK j h;unfold fQ at h;split at h;{cases h}
  ·split at h
   ·cases h
    rw[MI];omega
   {unfold jO jh at h;split at h;{cases h};{split at h;{exact j _ _ h};{cases h}}}
 induction n with
 |zero =>intro b f nm c h;rw[bG] at h;exact g _ _ _ _ _ _ (by omega) (λt c h=>by cases h) h
 |succ n i =>
  intro b f nm c h;rw[bG] at h;refine g _ _ _ _ _ _ (by omega) (λt c h=>?_) h;rcases hr:dV S (bG S n (b++[nm])) t 201 f [] [] with ⟨made1,x⟩|c1|d;{rw[hr] at h;cases h}
  ·rw[hr] at h;cases h
   refine zy (λf nm2 c2 h2=>?_) _ _ _ _ _ hr;have:=i _ _ _ _ h2;rw[cM,DW] at this;omega
  {rw[hr] at h;cases h}
